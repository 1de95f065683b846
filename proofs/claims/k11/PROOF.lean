import PyProof.Rows.All
import Wide.All
import OpenK.AllK
import Wide.FinOn
import HandS.ForMost
import HandS.ForExc
import HandS.Wide
import HandS.Evl
import HandS.Gcd
import HandS.Style
import HandS.NoneIn
import HandS.IsInst
import HandS.TryOnly
import HandS.Star
import HandS.Defaults
import HandS.Conv
import HandS.ForSpec
import HandS.Head3
import KE.KNestM
import KE.KMathG
import HandS.Steps
import PyProof.P3In
import HandS.Deep
import KE.GoesMore
import HandS.More
import KE.DataMinMax
import HandS.SortKw
import HandS.TupSets
import HandS.SortOrd
import HandS.SortRule
import HandS.Walk
import KE.KDflt
import HandS.Lambda
import HandS.ExcOwn
import HandS.TryMany
import HandS.ExcInit
import HandS.WordsExc
import KE.KExcHand
import KE.KExcIs
import KE.KExcInit
import PyProof.ReprRoads
import PyProof.ReprBulk
import PyProof.DictUpdate
import KE.KDictOf
import HandS.Property
import HandS.OwnEq
import HandS.WordsDict
import KE.KCallOwn
import PyProof.InstEq
import HandS.RaiseMore
import HandS.DictComp
import HandS.WideBits
import HandS.Iter
import KE.SortData
import KE.KAssignIn
import HandS.ListItems
import KE.KDictList
import KE.GoesEnum
import HandS.Zip
import HandS.MapObj
import KE.KDictZip
import HandS.CallLocal
import HandS.EndTab
import PySem.Challenge.RW_wherebase_k11_errors_of_shapes
set_option Elab.async false
set_option linter.all false
set_option maxRecDepth 100000
set_option maxHeartbeats 2000000
namespace Q
open PySem L2
def top (i : Nat) : Stmt := PySem.Challenge.pw_wherebase_k11_errors_of_shapes.main.body.getD i (.Pass ⟨0, 0, 0, 0⟩)
abbrev sBag : Stmt := top 111
abbrev sDraw : Stmt := top 112
abbrev sOne : Stmt := top 113
/-! ### powers of any size that fits -/
def CPowW (i j : Int) : Prop := 0 ≤ j ∧ (Builtin.Int.intBits i : Int) * j ≤ 2 ^ 27
theorem op_powW {X : Cx} : OpR X (binaryOp .Pow) (rI CPowW fun i j => .int (i ^ j.toNat)) := opI fun _ _ _ _ _ _ _ hc q => PyProof.Rows.pow_int hc.1 hc.2 q
/-! ### what a draw changes -/
structure Bgd (p : Addr) (H H' : Hp) : Prop where
  bag : ∃ a b c : Int, H' p = some (.lst [.int a, .int b, .int c])
  keep : ∀ l o, l ≠ p → H l = some o → H' l = some o
theorem Bgd.rfl' {p : Addr} {H : Hp} {a b c : Int} (h : H p = some (.lst [.int a, .int b, .int c])) : Bgd p H H := ⟨⟨a, b, c, h⟩, fun _ _ _ e => e⟩
theorem Bgd.trans {p : Addr} {H H1 H2 : Hp} (x : Bgd p H H1) (y : Bgd p H1 H2) : Bgd p H H2 := ⟨y.bag, fun l o n e => y.keep l o n (x.keep l o n e)⟩
theorem Bgd.free {p l : Addr} {H H1 : Hp} (x : Bgd p H H1) (h : H1 l = none) : H l = none := by
  obtain ⟨a, b, c, e⟩ := x.bag
  by_cases z : l = p
  · rw [z, e] at h
    cases h
  · cases q : H l with
    | none => rfl
    | some o =>
      rw [x.keep l o z q] at h
      cases h
theorem Bgd.new {p l : Addr} {H H1 : Hp} {o : HO} (x : Bgd p H H1) (h : H1 l = none) : Bgd p H (upd H1 l o) := by
  obtain ⟨a, b, c, e⟩ := x.bag
  refine ⟨⟨a, b, c, ?_⟩, fun m u n q => ?_⟩
  · rw [upd_ne (ne_of_none e h)]
    exact e
  · have q1 := x.keep m u n q
    rw [upd_ne (ne_of_none q1 h)]
    exact q1
theorem Bgd.put {p : Addr} {H H1 : Hp} (x : Bgd p H H1) (a b c : Int) : Bgd p H (upd H1 p (.lst [.int a, .int b, .int c])) := by
  refine ⟨⟨a, b, c, upd_same⟩, fun m u n q => ?_⟩
  rw [upd_ne n]
  exact x.keep m u n q
theorem Bgd.same {p : Addr} {H0 H H1 : Hp} (s : Same H0 H) (n : H0 p = none) (x : Bgd p H H1) : Same H0 H1 := fun l o e => x.keep l o (ne_of_none e n) (s l o e)
theorem atI_in {xs : List V} {r : Int} (h0 : 0 ≤ r) (h : r < xs.length) : ∃ v, atI xs r = some v ∧ xs[r.toNat]? = some v := by
  obtain ⟨n, rfl⟩ := Int.eq_ofNat_of_zero_le h0
  have hn : n < xs.length := by omega
  refine ⟨xs[n], ?_, ?_⟩
  · rw [atI_nat]
    simp [hn]
  · simp [hn]
theorem cut_ints (ns : List Int) (lo hi : Option Int) : ∃ ms : List Int, cutV (ns.map V.int) lo hi = ms.map V.int := by
  have cut : ∀ i j : Nat, ((ns.map V.int).drop i).take j = ((ns.drop i).take j).map V.int := fun i j => by rw [← List.map_drop, ← List.map_take]
  exact ⟨_, cut _ _⟩
theorem log_len {n : Nat} (h : n ≤ 1000) : ((n : Nat) : Int).natAbs.log2 < 9000 := by
  rw [Int.natAbs_natCast]
  exact Nat.lt_of_le_of_lt (Nat.le_trans (Nat.log2_le_self n) h) (by decide)
/-! ### the promises -/
def spBag (K : PySem.W.Frag) : Sp := fun vs H Q _ => ∃ (a : Addr) (ns : List Int) (i : Nat), vs = [.ref a, .int i] ∧ SqL K H a (ns.map V.int) ∧ i < 1000 ∧
  ∀ (p : Addr) (H' : Hp), H p = none → Same H H' → (∃ a b c : Int, H' p = some (.lst [.int a, .int b, .int c])) → Q (.ref p) H'
def spDraw : Sp := fun vs H Q _ => ∃ (p : Addr) (a b c n : Int), vs = [.ref p, .int n] ∧ H p = some (.lst [.int a, .int b, .int c]) ∧ 0 < n ∧ n.natAbs.log2 < 9000 ∧
  ∀ (r : Int) (H' : Hp), 0 ≤ r → r < n → Bgd p H H' → Q (.int r) H'
def spOne : Sp := fun vs H Q _ => ∃ (p q : Addr) (a b c : Int) (xs : List V), vs = [.ref p, .ref q] ∧ H p = some (.lst [.int a, .int b, .int c]) ∧ q ≠ p ∧ H q = some (.lst xs) ∧ 0 < xs.length ∧ xs.length ≤ 1000 ∧
  ∀ (i : Nat) (v : V) (H' : Hp), xs[i]? = some v → Bgd p H H' → Q v H'
def spShuf : Sp := fun vs H Q _ => ∃ (p q : Addr) (a b c : Int) (xs : List V), vs = [.ref p, .ref q] ∧ H p = some (.lst [.int a, .int b, .int c]) ∧ q ≠ p ∧ H q = some (.lst xs) ∧ xs.length ≤ 1000 ∧
  ∀ (l : Addr) (ys : List V) (H' : Hp), ys.Perm xs → H' l = some (.lst ys) → H l = none → Bgd p H H' → Q (.ref l) H'
structure TB (mg : Str → Option Value) : Prop where
  len : mg "len" = none
  sum : mg "sum" = none
  int : mg "int" = none
  abs : mg "abs" = none
  max : mg "max" = none
  range : mg "range" = none
  list : mg "list" = none
section
variable {P : Program} {w : World} {K : PySem.W.Frag} {mg : Str → Option Value} {base : Heap}
theorem scBag : FnScope ["script", "at", "cell", "great", "mixed"] ["script", "at"] (defScope sBag) := ⟨rfl, rfl, rfl, by decide +kernel, rfl, by decide +kernel, by decide +kernel⟩
theorem bigM : ((((10 : Int) ^ (Int.toNat 47)) ^ (Int.toNat 13))) ≠ 0 := by decide +kernel
theorem ok_bag {f : Addr} {fd : FuncData} (F : Fun K "_law_bag" "_law_bag" sBag f fd) (T : TB mg) : FnOk P w K mg base CX0 1 f fd ["script", "at"] (spBag K) := by
  refine F.ok scBag (fun vs H Q E h => ?_) (fun cdv A outer s H vs Q E hr h => ?_)
  · obtain ⟨a, ns, i, rfl, _⟩ := h
    rfl
  · obtain ⟨a, ns, i, rfl, hS, hi, k⟩ := h
    refine ⟨_, Evl.pss_cut (ps_set (i := 2) scBag.nd rfl (Or.inl rfl) (pe_ifExp (pt_cmpR op_lt (pv 1) (pe_callB call_len_seq (by rfl) T.len PySem.boot_len (pa_cons (pv 0) pa_nil)) (nomark _))
        (pe_ix ix_list (pv 0) (pv 1) (fun _ _ => rfl))
        (pe_op op_add (pe_op op_add (pe_callB (cr_sum rfl) (by rfl) T.sum (by decide +kernel) (pa_cons (pe_slice sl_list (pv 0) po_none (po_some pe_int)) pa_nil)) (pe_op op_mul pe_int (pv 1))) pe_int)))
      (pss_cons (ps_set (i := 3) scBag.nd rfl (Or.inl rfl) (pe_op op_modN (pe_callTy call_int1 (by rfl) T.int (by decide +kernel) (pa_cons (pe_callB call_abs (by rfl) T.abs (by decide +kernel) (pa_cons (pv 2) pa_nil)) pa_nil)) (pe_op op_powW (pe_op op_powW pe_int pe_int) pe_int)))
      (pss_cons (ps_set (i := 4) scBag.nd rfl (Or.inl rfl) (pe_op op_add (pe_op op_add (pe_op op_add (pe_op op_mul (pe_op op_mod (pe_callTy call_int1 (by rfl) T.int (by decide +kernel) (pa_cons (pv 3) pa_nil)) pe_int) pe_int) (pe_op op_mul pe_int (pv 1))) (pe_op op_mul pe_int (pe_callTy call_int1 (by rfl) T.int (by decide +kernel) (pa_cons (pe_cmpR op_lt (pv 2) pe_int (nomark _)) pa_nil)))) pe_int))
      (pss_one (ps_ret (pe_lst (pa_cons (pe_callB (call_max2 rfl) (by rfl) T.max (by decide +kernel) (pa_cons pe_int (pa_cons (pe_op op_sub (pv 3) (pe_op op_powW pe_int pe_int)) pa_nil))) (pa_cons (pe_op op_mod (pe_callTy call_int1 (by rfl) T.int (by decide +kernel) (pa_cons (pv 4) pa_nil)) pe_int) (pa_cons pe_int pa_nil)))))))), ?_⟩
    refine ⟨fun σ' H' => Same H H' ∧ ∃ c : Int, σ' = [some (.ref a), some (.int i), some (.int c), none, none], ?_, ?_⟩
    · refine ⟨_, rfl, _, rfl, a, _, rfl, .inl hS, _, _, rfl, rfl, _, rfl, ?_⟩
      refine ite2 (fun hlt => ?_) (fun _ => ?_)
      · have hlt := of_decide_eq_true hlt
        rw [List.length_map] at hlt
        have hl : i < ns.length := by omega
        refine ⟨_, rfl, _, rfl, a, _, _, V.int ns[i], rfl, rfl, hS, ?_, ?_⟩
        · rw [atI_nat]
          simp [hl]
        · exact ⟨Same.refl H, _, rfl⟩
      · refine ⟨_, rfl, _, rfl, a, ns.map V.int, rfl, hS, fun l hl => ?_⟩
        obtain ⟨ms, em⟩ := cut_ints ns none (some 1)
        rw [em]
        refine ⟨l, ms, rfl, SqL.of upd_same, _, rfl, _, _, rfl, rfl, .inl ?_, _, _, rfl, rfl, _, _, rfl, rfl, ?_⟩
        · show -(2 ^ 64) < (103 : Int) ∧ (103 : Int) < 2 ^ 64
          decide
        · exact ⟨fun b o e => by rw [upd_ne (ne_of_none e hl)]; exact e, _, rfl⟩
    · rintro σ' H1 ⟨s1, cell, rfl⟩
      refine ⟨_, rfl, cell, rfl, .inl ⟨_, rfl, ?_⟩⟩
      refine ⟨_, _, rfl, rfl, ⟨by decide, by decide +kernel⟩, _, _, rfl, rfl, ⟨by decide, by decide +kernel⟩, _, _, rfl, rfl, bigM, ?_⟩
      refine ⟨_, rfl, .inl ⟨_, rfl, _, _, rfl, rfl, (by show (0 : Int) < 2305843009213693723; decide), _, _, rfl, rfl, .inr ?_, _, rfl, _, _, rfl, rfl, .inl ?_, _, _, rfl, rfl, ?_⟩⟩
      · show -(2 ^ 64) < (1000231 : Int) ∧ (1000231 : Int) < 2 ^ 64
        decide
      · show -(2 ^ 64) < (9011 : Int) ∧ (9011 : Int) < 2 ^ 64
        decide
      · refine ⟨_, rfl, _, _, rfl, rfl, .inr ⟨_, rfl, _, _, rfl, rfl, .inl ?_, _, _, rfl, rfl, _, _, rfl, rfl, ?_⟩⟩
        · show -(2 ^ 64) < (41 : Int) ∧ (41 : Int) < 2 ^ 64
          decide
        · refine ⟨_, rfl, _, _, rfl, rfl, ⟨by decide, by decide +kernel⟩, _, _, rfl, rfl, _, _, rfl, ?_⟩
          refine ⟨_, rfl, .inl ⟨_, rfl, _, _, rfl, rfl, ?_, (by show 3 ≤ sizeLine; decide), fun p hp => ?_⟩⟩
          · show (0 : Int) < 2305843009213693951
            decide
          · exact k p _ (s1.free hp) (fun b o e => by rw [upd_ne (ne_of_none (s1 b o e) hp)]; exact s1 b o e) ⟨_, _, _, upd_same⟩
theorem scDraw : FnScope ["bag", "total", "found", "one", "two"] ["bag", "total"] (defScope sDraw) := ⟨rfl, rfl, rfl, by decide +kernel, rfl, by decide +kernel, by decide +kernel⟩
theorem ok_draw {f : Addr} {fd : FuncData} (F : Fun K "_law_draw" "_law_draw" sDraw f fd) (T : TB mg) : FnOk P w K mg base CX0 1 f fd ["bag", "total"] spDraw := by
  refine F.ok scDraw (fun vs H Q E h => ?_) (fun cdv A outer s H vs Q E hr h => ?_)
  · obtain ⟨p, a, b, c, n, rfl, _⟩ := h
    rfl
  · obtain ⟨p, a, b, c, n, rfl, hp, hn, hw, k⟩ := h
    have B0 : Bgd p H H := Bgd.rfl' hp
    refine ⟨_, pss_cons (ps_if (pt_cmpR op_gt (pe_ix ix_list (pv 0) pe_int (fun _ _ => rfl)) pe_int (nomark _))
        (pss_cons (ps_set (i := 2) scDraw.nd rfl (Or.inl rfl) (pe_op op_mod (pe_callTy call_int1 (by rfl) T.int (by decide +kernel) (pa_cons (pe_ix ix_list (pv 0) pe_int (fun _ _ => rfl)) pa_nil)) (pv 1)))
        (pss_cons (ps_asg (pe_op op_fdivW (pe_ix ix_list (pv 0) pe_int (fun _ _ => rfl)) (pv 1)) (pg_sub (pv 0) pe_int set_list))
        (pss_one (ps_ret (pv 2))))) pss_nil)
      (pss_cons (ps_asg (pe_op op_add (pe_ix ix_list (pv 0) pe_int (fun _ _ => rfl)) pe_int) (pg_sub (pv 0) pe_int set_list))
      (pss_cons (ps_set (i := 3) scDraw.nd rfl (Or.inl rfl) (pe_op op_mod (pe_callTy call_int1 (by rfl) T.int (by decide +kernel) (pa_cons (pe_op op_add (pe_ix ix_list (pv 0) pe_int (fun _ _ => rfl)) (pe_op op_mul pe_int (pe_ix ix_list (pv 0) pe_int (fun _ _ => rfl)))) pa_nil)) pe_int))
      (pss_cons (ps_set (i := 4) scDraw.nd rfl (Or.inl rfl) (pe_op op_add (pe_op op_mul (pe_op op_mod (pe_callTy call_int1 (by rfl) T.int (by decide +kernel) (pa_cons (pe_op op_mul (pv 3) (pv 3)) pa_nil)) pe_int) (pv 3)) (pe_op op_mul pe_int (pe_ix ix_list (pv 0) pe_int (fun _ _ => rfl)))))
      (pss_one (ps_ret (pe_op op_mod (pe_callTy call_int1 (by rfl) T.int (by decide +kernel) (pa_cons (pe_op op_fdiv (pe_op op_mod (pe_callTy call_int1 (by rfl) T.int (by decide +kernel) (pa_cons (pv 4) pa_nil)) pe_int) pe_int) pa_nil)) (pv 1))))))), ?_⟩
    refine ⟨_, rfl, p, _, _, V.int a, rfl, rfl, SqL.of hp, rfl, _, _, rfl, rfl, _, rfl, ?_⟩
    refine ite2 (fun _ => ?_) (fun _ => ?_)
    · refine ⟨_, rfl, p, _, _, V.int a, rfl, rfl, SqL.of hp, rfl, .inl ⟨_, rfl, _, rfl, _, _, rfl, rfl, hn, ?_⟩⟩
      refine ⟨_, rfl, p, _, _, V.int a, rfl, rfl, SqL.of hp, rfl, _, rfl, _, _, rfl, rfl, ⟨hn, hw⟩, ?_⟩
      refine ⟨_, rfl, p, _, _, 0, rfl, rfl, hp, rfl, _, rfl, ?_⟩
      exact k _ _ (Int.emod_nonneg _ (by omega)) (Int.emod_lt_of_pos _ hn) (B0.put _ _ _)
    · refine ⟨_, rfl, p, _, _, V.int c, rfl, rfl, SqL.of hp, rfl, _, _, rfl, rfl, ?_⟩
      refine ⟨_, rfl, p, _, _, 2, rfl, rfl, hp, rfl, ?_⟩
      refine ⟨_, rfl, p, _, _, V.int b, rfl, rfl, SqL.of upd_same, rfl, _, rfl, p, _, _, V.int (c + 1), rfl, rfl, SqL.of upd_same, rfl, _, _, rfl, rfl, .inl ?_, _, _, rfl, rfl, .inl ⟨_, rfl, _, _, rfl, rfl, ?_, ?_⟩⟩
      · show -(2 ^ 64) < (1048609 : Int) ∧ (1048609 : Int) < 2 ^ 64
        decide
      · show (0 : Int) < 2305843009213693951
        decide
      have o1 : 0 ≤ (b + 1048609 * (c + 1)) % 2305843009213693951 := Int.emod_nonneg _ (by decide)
      have o2 : (b + 1048609 * (c + 1)) % 2305843009213693951 < 2305843009213693951 := Int.emod_lt_of_pos _ (by decide)
      generalize (b + 1048609 * (c + 1)) % 2305843009213693951 = one at o1 o2 ⊢
      refine ⟨_, rfl, _, rfl, _, _, rfl, rfl, .inl ⟨by omega, by omega⟩, .inl ⟨_, rfl, _, _, rfl, rfl, ?_, ?_⟩⟩
      · show (0 : Int) < 2305843009213693723
        decide
      have t1 : 0 ≤ one * one % 2305843009213693723 := Int.emod_nonneg _ (by decide)
      have t2 : one * one % 2305843009213693723 < 2305843009213693723 := Int.emod_lt_of_pos _ (by decide)
      generalize one * one % 2305843009213693723 = sq at t1 t2 ⊢
      refine ⟨_, rfl, _, _, rfl, rfl, .inl ⟨by omega, by omega⟩, _, rfl, p, _, _, V.int (c + 1), rfl, rfl, SqL.of upd_same, rfl, _, _, rfl, rfl, .inl ?_, _, _, rfl, rfl, ?_⟩
      · show -(2 ^ 64) < (8117 : Int) ∧ (8117 : Int) < 2 ^ 64
        decide
      generalize sq * one + 8117 * (c + 1) = two
      refine ⟨_, rfl, .inl ⟨_, rfl, _, _, rfl, rfl, ?_, _, _, rfl, rfl, ?_, .inl ⟨_, rfl, _, rfl, _, _, rfl, rfl, hn, ?_⟩⟩⟩
      · show (0 : Int) < 2305843009213693921
        decide
      · exact ⟨by decide, by decide⟩
      exact k _ _ (Int.emod_nonneg _ (by omega)) (Int.emod_lt_of_pos _ hn) (B0.put _ _ _)
theorem scOne : FnScope ["bag", "items"] ["bag", "items"] (defScope sOne) := ⟨rfl, rfl, rfl, by decide +kernel, rfl, by decide +kernel, by decide +kernel⟩
theorem ok_one {f fD : Addr} {fd fdD : FuncData} (F : Fun K "_law_one_of" "_law_one_of" sOne f fd) (T : TB mg) (FD : FnOk P w K mg base CX0 1 fD fdD ["bag", "total"] spDraw) (bD : Binds K fdD ["bag", "total"] []) (gD : mg "_law_draw" = some (.ref fD)) (kD : PySem.W.keepIn K (.ref fD) = true) :
    FnOk P w K mg base CX0 2 f fd ["bag", "items"] spOne := by
  refine F.ok scOne (fun vs H Q E h => ?_) (fun cdv A outer s H vs Q E hr h => ?_)
  · obtain ⟨p, q, a, b, c, xs, rfl, _⟩ := h
    rfl
  · obtain ⟨p, q, a, b, c, xs, rfl, hp, hne, hq, h0, h1, k⟩ := h
    refine ⟨_, pss_one (ps_ret (pe_ix ix_list (pv 1) (pe_call FD hr (by rfl) gD kD bD .nil pass0 (pa_cons (pv 0) (pa_cons (pe_callB call_len_seq (by rfl) T.len PySem.boot_len (pa_cons (pv 1) pa_nil)) pa_nil))) (fun _ _ => rfl))), ?_⟩
    refine ⟨_, rfl, _, rfl, _, rfl, q, _, rfl, .inl (SqL.of hq), p, a, b, c, _, rfl, hp, by omega, log_len h1, ?_⟩
    · intro r H' r0 r1 B
      obtain ⟨v, e1, e2⟩ := atI_in r0 r1
      exact ⟨q, xs, _, v, rfl, rfl, SqL.of (B.keep _ _ hne hq), e1, k r.toNat _ _ e2 B⟩
end
end Q
set_option Elab.async false
set_option linter.all false
set_option maxRecDepth 100000
set_option maxHeartbeats 0
/-! the heap behind the top, as it stands; the run -/
namespace Q
open PySem PySem.W PySem.Calls PyProof.Rows L2
def o2 (P : Params) : Obj := ⟨.none, none, (.dict #[⟨PyData.keyHash P (.ofString "import.loaded.math"), (.str (.ofString "import.loaded.math") 185), (.bool true)⟩, ⟨PyData.keyHash P (.ofString "class._frozen_importlib_external._LoaderBasics"), (.str (.ofString "class._frozen_importlib_external._LoaderBasics") 190), (.ref 16)⟩, ⟨PyData.keyHash P (.ofString "watched.import"), (.str (.ofString "watched.import") 206), (.ref 20)⟩, ⟨PyData.keyHash P (.ofString "class._frozen_importlib_external.FileLoader"), (.str (.ofString "class._frozen_importlib_external.FileLoader") 207), (.ref 22)⟩, ⟨PyData.keyHash P (.ofString "class._frozen_importlib_external.ExtensionFileLoader"), (.str (.ofString "class._frozen_importlib_external.ExtensionFileLoader") 228), (.ref 27)⟩, ⟨PyData.keyHash P (.ofString "class._frozen_importlib.ModuleSpec"), (.str (.ofString "class._frozen_importlib.ModuleSpec") 256), (.ref 33)⟩, ⟨PyData.keyHash P (.ofString "sys.modules.booked-epoch"), (.str (.ofString "sys.modules.booked-epoch") 285), (.int (3) 0)⟩, ⟨PyData.keyHash P (.ofString "import.later-laid.math"), (.str (.ofString "import.later-laid.math") 361), (.bool true)⟩, ⟨PyData.keyHash P (.ofString "watched.library"), (.str (.ofString "watched.library") 363), (.ref 38)⟩, ⟨PyData.keyHash P (.ofString "watched.library-objects"), (.str (.ofString "watched.library-objects") 0), (.str (.ofString "\x0d") 0)⟩, ⟨PyData.keyHash P (.ofString "type.__subclasses__.OverflowError.0"), (.str (.ofString "type.__subclasses__.OverflowError.0") 460), (.int (103) 0)⟩, ⟨PyData.keyHash P (.ofString "type.__subclasses__.OverflowError.n"), (.str (.ofString "type.__subclasses__.OverflowError.n") 461), (.int (1) 0)⟩] 12), #[]⟩
def o3 (P : Params) : Obj := ⟨(.type "dict"), none, (.dict #[⟨PyData.keyHash P (.ofString "__name__"), (.str (.ofString "__name__") 165), (.str (.ofString "law_wherebase_k11_errors_of_shapes") 1536)⟩, ⟨PyData.keyHash P (.ofString "__doc__"), (.str (.ofString "__doc__") 166), .none⟩, ⟨PyData.keyHash P (.ofString "__package__"), (.str (.ofString "__package__") 167), .none⟩, ⟨PyData.keyHash P (.ofString "__loader__"), (.str (.ofString "__loader__") 168), (.builtin "__main__.__loader__#opaque")⟩, ⟨PyData.keyHash P (.ofString "__spec__"), (.str (.ofString "__spec__") 169), .none⟩, ⟨PyData.keyHash P (.ofString "__annotations__"), (.str (.ofString "__annotations__") 170), (.ref 6)⟩, ⟨PyData.keyHash P (.ofString "__builtins__"), (.str (.ofString "__builtins__") 171), (.ref 4)⟩, ⟨PyData.keyHash P (.ofString "__file__"), (.str (.ofString "__file__") 173), (.str (.ofString "/claim/cut.py") 172)⟩, ⟨PyData.keyHash P (.ofString "__cached__"), (.str (.ofString "__cached__") 174), .none⟩, ⟨PyData.keyHash P (.ofString "gcd"), (.str (.ofString "gcd") 369), (.builtin "math.gcd")⟩, ⟨PyData.keyHash P (.ofString "_wall"), (.str (.ofString "_wall") 382), (.ref 49)⟩, ⟨PyData.keyHash P (.ofString "WhereError"), (.str (.ofString "WhereError") 402), (.ref 59)⟩, ⟨PyData.keyHash P (.ofString "InvalidPoint"), (.str (.ofString "InvalidPoint") 418), (.ref 72)⟩, ⟨PyData.keyHash P (.ofString "InvalidShape"), (.str (.ofString "InvalidShape") 434), (.ref 84)⟩, ⟨PyData.keyHash P (.ofString "TooMany"), (.str (.ofString "TooMany") 463), (.ref 103)⟩, ⟨PyData.keyHash P (.ofString "lowest_point"), (.str (.ofString "lowest_point") 475), (.ref 113)⟩, ⟨PyData.keyHash P (.ofString "crossed"), (.str (.ofString "crossed") 483), (.ref 120)⟩, ⟨PyData.keyHash P (.ofString "line_through"), (.str (.ofString "line_through") 495), (.ref 127)⟩, ⟨PyData.keyHash P (.ofString "value_at"), (.str (.ofString "value_at") 503), (.ref 134)⟩, ⟨PyData.keyHash P (.ofString "cross_point"), (.str (.ofString "cross_point") 514), (.ref 141)⟩, ⟨PyData.keyHash P (.ofString "sign_of"), (.str (.ofString "sign_of") 521), (.ref 148)⟩, ⟨PyData.keyHash P (.ofString "turn"), (.str (.ofString "turn") 530), (.ref 155)⟩, ⟨PyData.keyHash P (.ofString "way"), (.str (.ofString "way") 538), (.ref 162)⟩, ⟨PyData.keyHash P (.ofString "lies_between"), (.str (.ofString "lies_between") 551), (.ref 169)⟩, ⟨PyData.keyHash P (.ofString "is_left"), (.str (.ofString "is_left") 559), (.ref 176)⟩, ⟨PyData.keyHash P (.ofString "shared_points"), (.str (.ofString "shared_points") 565), (.ref 181)⟩, ⟨PyData.keyHash P (.ofString "is_integer"), (.str (.ofString "is_integer") 574), (.ref 188)⟩, ⟨PyData.keyHash P (.ofString "fine_bits"), (.str (.ofString "fine_bits") 582), (.ref 193)⟩, ⟨PyData.keyHash P (.ofString "steps_of"), (.str (.ofString "steps_of") 588), (.ref 198)⟩, ⟨PyData.keyHash P (.ofString "fraction_steps"), (.str (.ofString "fraction_steps") 594), (.ref 203)⟩, ⟨PyData.keyHash P (.ofString "slope_ranks"), (.str (.ofString "slope_ranks") 600), (.ref 208)⟩, ⟨PyData.keyHash P (.ofString "is_point"), (.str (.ofString "is_point") 612), (.ref 215)⟩, ⟨PyData.keyHash P (.ofString "is_side"), (.str (.ofString "is_side") 619), (.ref 222)⟩, ⟨PyData.keyHash P (.ofString "Groups"), (.str (.ofString "Groups") 674), (.ref 258)⟩, ⟨PyData.keyHash P (.ofString "form_of"), (.str (.ofString "form_of") 682), (.ref 267)⟩, ⟨PyData.keyHash P (.ofString "pieces_of"), (.str (.ofString "pieces_of") 688), (.ref 272)⟩, ⟨PyData.keyHash P (.ofString "_in_points"), (.str (.ofString "_in_points") 694), (.ref 277)⟩, ⟨PyData.keyHash P (.ofString "_areas"), (.str (.ofString "_areas") 700), (.ref 282)⟩, ⟨PyData.keyHash P (.ofString "_owners"), (.str (.ofString "_owners") 715), (.ref 289)⟩, ⟨PyData.keyHash P (.ofString "_ring_from"), (.str (.ofString "_ring_from") 729), (.ref 296)⟩, ⟨PyData.keyHash P (.ofString "_is_outer"), (.str (.ofString "_is_outer") 735), (.ref 301)⟩, ⟨PyData.keyHash P (.ofString "_corners_of"), (.str (.ofString "_corners_of") 741), (.ref 306)⟩, ⟨PyData.keyHash P (.ofString "_is_knot"), (.str (.ofString "_is_knot") 749), (.ref 313)⟩, ⟨PyData.keyHash P (.ofString "_straight_on"), (.str (.ofString "_straight_on") 762), (.ref 320)⟩, ⟨PyData.keyHash P (.ofString "_is_alone"), (.str (.ofString "_is_alone") 768), (.ref 325)⟩, ⟨PyData.keyHash P (.ofString "cut"), (.str (.ofString "cut") 776), (.ref 330)⟩, ⟨PyData.keyHash P (.ofString "_points_on_sides"), (.str (.ofString "_points_on_sides") 782), (.ref 335)⟩, ⟨PyData.keyHash P (.ofString "half_below"), (.str (.ofString "half_below") 799), (.ref 342)⟩, ⟨PyData.keyHash P (.ofString "_is_above"), (.str (.ofString "_is_above") 810), (.ref 349)⟩, ⟨PyData.keyHash P (.ofString "Web"), (.str (.ofString "Web") 949), (.ref 433)⟩, ⟨PyData.keyHash P (.ofString "_linked"), (.str (.ofString "_linked") 955), (.ref 442)⟩, ⟨PyData.keyHash P (.ofString "_walked"), (.str (.ofString "_walked") 967), (.ref 449)⟩, ⟨PyData.keyHash P (.ofString "ring_sides"), (.str (.ofString "ring_sides") 975), (.ref 454)⟩, ⟨PyData.keyHash P (.ofString "flooded"), (.str (.ofString "flooded") 989), (.ref 461)⟩, ⟨PyData.keyHash P (.ofString "Sheet"), (.str (.ofString "Sheet") 1052), (.ref 495)⟩, ⟨PyData.keyHash P (.ofString "marks_of"), (.str (.ofString "marks_of") 1062), (.ref 506)⟩, ⟨PyData.keyHash P (.ofString "_knots_and_points"), (.str (.ofString "_knots_and_points") 1078), (.ref 513)⟩, ⟨PyData.keyHash P (.ofString "holders"), (.str (.ofString "holders") 1086), (.ref 518)⟩, ⟨PyData.keyHash P (.ofString "_range_at"), (.str (.ofString "_range_at") 1097), (.ref 525)⟩, ⟨PyData.keyHash P (.ofString "_first_from"), (.str (.ofString "_first_from") 1109), (.ref 532)⟩, ⟨PyData.keyHash P (.ofString "is_told_corner"), (.str (.ofString "is_told_corner") 1118), (.ref 539)⟩, ⟨PyData.keyHash P (.ofString "are_told_corners"), (.str (.ofString "are_told_corners") 1124), (.ref 544)⟩, ⟨PyData.keyHash P (.ofString "is_told_ring"), (.str (.ofString "is_told_ring") 1131), (.ref 551)⟩, ⟨PyData.keyHash P (.ofString "is_told_area"), (.str (.ofString "is_told_area") 1137), (.ref 556)⟩, ⟨PyData.keyHash P (.ofString "is_told_piece"), (.str (.ofString "is_told_piece") 1144), (.ref 563)⟩, ⟨PyData.keyHash P (.ofString "is_told_shape"), (.str (.ofString "is_told_shape") 1150), (.ref 568)⟩, ⟨PyData.keyHash P (.ofString "told_size"), (.str (.ofString "told_size") 1156), (.ref 573)⟩, ⟨PyData.keyHash P (.ofString "told_point"), (.str (.ofString "told_point") 1163), (.ref 580)⟩, ⟨PyData.keyHash P (.ofString "told_points"), (.str (.ofString "told_points") 1169), (.ref 585)⟩, ⟨PyData.keyHash P (.ofString "told_form"), (.str (.ofString "told_form") 1175), (.ref 590)⟩, ⟨PyData.keyHash P (.ofString "flaws_of"), (.str (.ofString "flaws_of") 1183), (.ref 595)⟩, ⟨PyData.keyHash P (.ofString "_turn_at"), (.str (.ofString "_turn_at") 1191), (.ref 602)⟩, ⟨PyData.keyHash P (.ofString "_is_clockwise"), (.str (.ofString "_is_clockwise") 1197), (.ref 607)⟩, ⟨PyData.keyHash P (.ofString "_has_meeting_sides"), (.str (.ofString "_has_meeting_sides") 1203), (.ref 612)⟩, ⟨PyData.keyHash P (.ofString "_common_points"), (.str (.ofString "_common_points") 1213), (.ref 619)⟩, ⟨PyData.keyHash P (.ofString "place_among"), (.str (.ofString "place_among") 1230), (.ref 626)⟩, ⟨PyData.keyHash P (.ofString "_place_on_lines"), (.str (.ofString "_place_on_lines") 1236), (.ref 631)⟩, ⟨PyData.keyHash P (.ofString "_height"), (.str (.ofString "_height") 1244), (.ref 638)⟩, ⟨PyData.keyHash P (.ofString "MAX_TOLD"), (.str (.ofString "MAX_TOLD") 1248), (.int (200) 1247)⟩, ⟨PyData.keyHash P (.ofString "Shape"), (.str (.ofString "Shape") 1376), (.ref 743)⟩, ⟨PyData.keyHash P (.ofString "shape_of"), (.str (.ofString "shape_of") 1384), (.ref 754)⟩, ⟨PyData.keyHash P (.ofString "check_shapes"), (.str (.ofString "check_shapes") 1392), (.ref 761)⟩, ⟨PyData.keyHash P (.ofString "check_told_size"), (.str (.ofString "check_told_size") 1399), (.ref 768)⟩, ⟨PyData.keyHash P (.ofString "check_drawn"), (.str (.ofString "check_drawn") 1405), (.ref 773)⟩, ⟨PyData.keyHash P (.ofString "sheet_of"), (.str (.ofString "sheet_of") 1411), (.ref 778)⟩, ⟨PyData.keyHash P (.ofString "shapes_of"), (.str (.ofString "shapes_of") 1417), (.ref 783)⟩, ⟨PyData.keyHash P (.ofString "closure_of"), (.str (.ofString "closure_of") 1425), (.ref 790)⟩, ⟨PyData.keyHash P (.ofString "area"), (.str (.ofString "area") 1432), (.ref 797)⟩, ⟨PyData.keyHash P (.ofString "filled"), (.str (.ofString "filled") 1439), (.ref 804)⟩, ⟨PyData.keyHash P (.ofString "line"), (.str (.ofString "line") 1446), (.ref 811)⟩, ⟨PyData.keyHash P (.ofString "dots"), (.str (.ofString "dots") 1453), (.ref 818)⟩, ⟨PyData.keyHash P (.ofString "empty"), (.str (.ofString "empty") 1459), (.ref 825)⟩, ⟨PyData.keyHash P (.ofString "place"), (.str (.ofString "place") 1467), (.ref 832)⟩, ⟨PyData.keyHash P (.ofString "border"), (.str (.ofString "border") 1473), (.ref 837)⟩, ⟨PyData.keyHash P (.ofString "body"), (.str (.ofString "body") 1480), (.ref 844)⟩, ⟨PyData.keyHash P (.ofString "lines"), (.str (.ofString "lines") 1487), (.ref 851)⟩, ⟨PyData.keyHash P (.ofString "lone"), (.str (.ofString "lone") 1494), (.ref 858)⟩, ⟨PyData.keyHash P (.ofString "parts"), (.str (.ofString "parts") 1500), (.ref 863)⟩, ⟨PyData.keyHash P (.ofString "area_shapes"), (.str (.ofString "area_shapes") 1506), (.ref 868)⟩, ⟨PyData.keyHash P (.ofString "without_holes"), (.str (.ofString "without_holes") 1512), (.ref 873)⟩, ⟨PyData.keyHash P (.ofString "knots"), (.str (.ofString "knots") 1522), (.ref 880)⟩, ⟨PyData.keyHash P (.ofString "ring_flaws"), (.str (.ofString "ring_flaws") 1529), (.ref 887)⟩, ⟨PyData.keyHash P (.ofString "is_form"), (.str (.ofString "is_form") 1535), (.ref 892)⟩, ⟨PyData.keyHash P (.ofString "_law_bag"), (.str (.ofString "_law_bag") 1548), (.ref 899)⟩, ⟨PyData.keyHash P (.ofString "_law_draw"), (.str (.ofString "_law_draw") 1559), (.ref 906)⟩, ⟨PyData.keyHash P (.ofString "_law_one_of"), (.str (.ofString "_law_one_of") 1567), (.ref 913)⟩, ⟨PyData.keyHash P (.ofString "_law_said"), (.str (.ofString "_law_said") 1575), (.ref 920)⟩, ⟨PyData.keyHash P (.ofString "_law_told_wrong"), (.str (.ofString "_law_told_wrong") 1584), (.ref 927)⟩, ⟨PyData.keyHash P (.ofString "_law_rows_wrong"), (.str (.ofString "_law_rows_wrong") 1593), (.ref 934)⟩, ⟨PyData.keyHash P (.ofString "_law_shapes_wrong"), (.str (.ofString "_law_shapes_wrong") 1603), (.ref 941)⟩, ⟨PyData.keyHash P (.ofString "_law_few"), (.str (.ofString "_law_few") 1610), (.ref 948)⟩, ⟨PyData.keyHash P (.ofString "_law_right"), (.str (.ofString "_law_right") 1616), (.ref 953)⟩, ⟨PyData.keyHash P (.ofString "law"), (.str (.ofString "law") 1624), (.ref 960)⟩] 113), #[]⟩
def o50 : Obj := ⟨(.type "tuple"), none, (.seq #[(.type "ValueError")] 0), #[]⟩
def o57 : Obj := ⟨(.type "tuple"), none, (.seq #[] 0), #[]⟩
def o58 (P : Params) : Obj := ⟨(.type "dict"), none, (.dict #[⟨PyData.keyHash P (.ofString "__module__"), (.str (.ofString "__module__") 392), (.str (.ofString "wherebase.errors") 383)⟩, ⟨PyData.keyHash P (.ofString "__firstlineno__"), (.str (.ofString "__firstlineno__") 396), (.int (6) 395)⟩, ⟨PyData.keyHash P (.ofString "__static_attributes__"), (.str (.ofString "__static_attributes__") 397), (.ref 57)⟩, ⟨PyData.keyHash P (.ofString "__weakref__"), (.str (.ofString "__weakref__") 399), (.ref 60)⟩, ⟨PyData.keyHash P (.ofString "__doc__"), (.str (.ofString "__doc__") 400), .none⟩] 3), #[]⟩
def o59 : Obj := ⟨(.type "type"), none, (.cls ⟨(.ofString "WhereError"), [(.type "ValueError")], [(.ref 59), (.type "ValueError"), (.type "Exception"), (.type "BaseException"), (.type "object")], 58, (.ofString "WhereError"), true, [], [(.ref 72), (.ref 84)], false, none, false⟩), #[(some (.ref 50)), none, (some (.str (.ofString "WhereError") 385)), (some (.str (.ofString "WhereError") 393)), (some (.builtin "ValueError.__new__")), (some (.bool true))]⟩
def o60 : Obj := ⟨(.type "getset_descriptor"), none, (.fields #[(.str (.ofString "__weakref__") 398), (.ref 59), (.builtin "ExceptionGroup.__weakref__"), .none]), #[]⟩
def o63 : Obj := ⟨(.type "tuple"), none, (.seq #[(.ref 59)] 0), #[]⟩
def o70 : Obj := ⟨(.type "tuple"), none, (.seq #[] 0), #[]⟩
def o71 (P : Params) : Obj := ⟨(.type "dict"), none, (.dict #[⟨PyData.keyHash P (.ofString "__module__"), (.str (.ofString "__module__") 410), (.str (.ofString "wherebase.errors") 383)⟩, ⟨PyData.keyHash P (.ofString "__firstlineno__"), (.str (.ofString "__firstlineno__") 414), (.int (8) 413)⟩, ⟨PyData.keyHash P (.ofString "__static_attributes__"), (.str (.ofString "__static_attributes__") 415), (.ref 70)⟩, ⟨PyData.keyHash P (.ofString "__doc__"), (.str (.ofString "__doc__") 416), .none⟩] 2), #[]⟩
def o72 : Obj := ⟨(.type "type"), none, (.cls ⟨(.ofString "InvalidPoint"), [(.ref 59)], [(.ref 72), (.ref 59), (.type "ValueError"), (.type "Exception"), (.type "BaseException"), (.type "object")], 71, (.ofString "InvalidPoint"), true, [], [], false, none, false⟩), #[(some (.ref 63)), none, (some (.str (.ofString "InvalidPoint") 403)), (some (.str (.ofString "InvalidPoint") 411)), (some (.builtin "ValueError.__new__")), (some (.bool true))]⟩
def o75 : Obj := ⟨(.type "tuple"), none, (.seq #[(.ref 59)] 0), #[]⟩
def o82 : Obj := ⟨(.type "tuple"), none, (.seq #[] 0), #[]⟩
def o83 (P : Params) : Obj := ⟨(.type "dict"), none, (.dict #[⟨PyData.keyHash P (.ofString "__module__"), (.str (.ofString "__module__") 426), (.str (.ofString "wherebase.errors") 383)⟩, ⟨PyData.keyHash P (.ofString "__firstlineno__"), (.str (.ofString "__firstlineno__") 430), (.int (10) 429)⟩, ⟨PyData.keyHash P (.ofString "__static_attributes__"), (.str (.ofString "__static_attributes__") 431), (.ref 82)⟩, ⟨PyData.keyHash P (.ofString "__doc__"), (.str (.ofString "__doc__") 432), .none⟩] 2), #[]⟩
def o84 : Obj := ⟨(.type "type"), none, (.cls ⟨(.ofString "InvalidShape"), [(.ref 59)], [(.ref 84), (.ref 59), (.type "ValueError"), (.type "Exception"), (.type "BaseException"), (.type "object")], 83, (.ofString "InvalidShape"), true, [], [], false, none, false⟩), #[(some (.ref 75)), none, (some (.str (.ofString "InvalidShape") 419)), (some (.str (.ofString "InvalidShape") 427)), (some (.builtin "ValueError.__new__")), (some (.bool true))]⟩
def o87 : Obj := ⟨(.type "tuple"), none, (.seq #[(.type "OverflowError")] 0), #[]⟩
def o99 : Obj := ⟨(.type "code"), none, (.fields #[(.str (.ofString "__init__") 447), (.str (.ofString "TooMany.__init__") 448), (.str (.ofString "/claim/cut.py") 449), (.int (14) 0), (.int (2) 0), (.int (0) 0), (.int (0) 0), (.int (3) 0), (.ref 94), (.bool true), (.int (370) 0), (.ref 95), .none, (.ref 96), (.ref 97), (.ref 98), (.int (452) 0), (.int (14) 0), (.str (.ofString "/claim/cut.py") 453)]), #[]⟩
def o100 : Obj := ⟨(.type "function"), none, (.func ⟨(.ofString "__init__"), (.ofString "TooMany.__init__"), (defArgs (inClass (top 6) 0)), .stmts (defBody (inClass (top 6) 0)), (defScope (inClass (top 6) 0)), 3, [], .none, .none, .none, (.str (.ofString "wherebase.errors") 383), none, (.ref 99), .none, 0⟩), #[]⟩
def o101 : Obj := ⟨(.type "tuple"), none, (.seq #[(.str (.ofString "limit") 455)] 0), #[]⟩
def o102 (P : Params) : Obj := ⟨(.type "dict"), none, (.dict #[⟨PyData.keyHash P (.ofString "__module__"), (.str (.ofString "__module__") 442), (.str (.ofString "wherebase.errors") 383)⟩, ⟨PyData.keyHash P (.ofString "__firstlineno__"), (.str (.ofString "__firstlineno__") 446), (.int (12) 445)⟩, ⟨PyData.keyHash P (.ofString "__init__"), (.str (.ofString "__init__") 454), (.ref 100)⟩, ⟨PyData.keyHash P (.ofString "__static_attributes__"), (.str (.ofString "__static_attributes__") 456), (.ref 101)⟩, ⟨PyData.keyHash P (.ofString "__weakref__"), (.str (.ofString "__weakref__") 458), (.ref 104)⟩, ⟨PyData.keyHash P (.ofString "__doc__"), (.str (.ofString "__doc__") 459), .none⟩] 3), #[]⟩
def o103 : Obj := ⟨(.type "type"), none, (.cls ⟨(.ofString "TooMany"), [(.type "OverflowError")], [(.ref 103), (.type "OverflowError"), (.type "ArithmeticError"), (.type "Exception"), (.type "BaseException"), (.type "object")], 102, (.ofString "TooMany"), true, [], [], false, none, false⟩), #[(some (.ref 87)), none, (some (.str (.ofString "TooMany") 435)), (some (.str (.ofString "TooMany") 443)), (some (.builtin "OverflowError.__new__")), (some (.bool true))]⟩
def o104 : Obj := ⟨(.type "getset_descriptor"), none, (.fields #[(.str (.ofString "__weakref__") 457), (.ref 103), (.builtin "ExceptionGroup.__weakref__"), .none]), #[]⟩
def o187 : Obj := ⟨(.type "code"), none, (.fields #[(.str (.ofString "is_integer") 568), (.str (.ofString "is_integer") 569), (.str (.ofString "/claim/cut.py") 570), (.int (70) 0), (.int (1) 0), (.int (0) 0), (.int (0) 0), (.int (3) 0), (.ref 182), (.bool true), (.int (370) 0), (.ref 183), .none, (.ref 184), (.ref 185), (.ref 186), (.int (572) 0), (.int (70) 0), (.str (.ofString "/claim/cut.py") 573)]), #[]⟩
def o188 : Obj := ⟨(.type "function"), none, (.func ⟨(.ofString "is_integer"), (.ofString "is_integer"), (defArgs (top 20)), .stmts (defBody (top 20)), (defScope (top 20)), 3, [], .none, .none, .none, (.str (.ofString "wherebase.base.numbers") 566), none, (.ref 187), .none, 0⟩), #[]⟩
def o192 : Obj := ⟨(.type "code"), none, (.fields #[(.str (.ofString "fine_bits") 577), (.str (.ofString "fine_bits") 578), (.str (.ofString "/claim/cut.py") 579), (.int (73) 0), (.int (1) 0), (.int (0) 0), (.int (0) 0), (.int (3) 0), (.ref 189), (.bool true), (.int (370) 0), (.ref 190), .none, .none, .none, (.ref 191), (.int (580) 0), (.int (73) 0), (.str (.ofString "/claim/cut.py") 581)]), #[]⟩
def o193 : Obj := ⟨(.type "function"), none, (.func ⟨(.ofString "fine_bits"), (.ofString "fine_bits"), (defArgs (top 22)), .stmts (defBody (top 22)), (defScope (top 22)), 3, [], .none, .none, .none, (.str (.ofString "wherebase.base.order") 575), none, (.ref 192), .none, 0⟩), #[]⟩
def o197 : Obj := ⟨(.type "code"), none, (.fields #[(.str (.ofString "steps_of") 583), (.str (.ofString "steps_of") 584), (.str (.ofString "/claim/cut.py") 585), (.int (75) 0), (.int (1) 0), (.int (0) 0), (.int (0) 0), (.int (3) 0), (.ref 194), (.bool true), (.int (370) 0), (.ref 195), .none, .none, .none, (.ref 196), (.int (586) 0), (.int (75) 0), (.str (.ofString "/claim/cut.py") 587)]), #[]⟩
def o198 : Obj := ⟨(.type "function"), none, (.func ⟨(.ofString "steps_of"), (.ofString "steps_of"), (defArgs (top 23)), .stmts (defBody (top 23)), (defScope (top 23)), 3, [], .none, .none, .none, (.str (.ofString "wherebase.base.order") 575), none, (.ref 197), .none, 0⟩), #[]⟩
def o202 : Obj := ⟨(.type "code"), none, (.fields #[(.str (.ofString "fraction_steps") 589), (.str (.ofString "fraction_steps") 590), (.str (.ofString "/claim/cut.py") 591), (.int (78) 0), (.int (1) 0), (.int (0) 0), (.int (0) 0), (.int (3) 0), (.ref 199), (.bool true), (.int (370) 0), (.ref 200), .none, .none, .none, (.ref 201), (.int (592) 0), (.int (78) 0), (.str (.ofString "/claim/cut.py") 593)]), #[]⟩
def o203 : Obj := ⟨(.type "function"), none, (.func ⟨(.ofString "fraction_steps"), (.ofString "fraction_steps"), (defArgs (top 24)), .stmts (defBody (top 24)), (defScope (top 24)), 3, [], .none, .none, .none, (.str (.ofString "wherebase.base.order") 575), none, (.ref 202), .none, 0⟩), #[]⟩
def o207 : Obj := ⟨(.type "code"), none, (.fields #[(.str (.ofString "slope_ranks") 595), (.str (.ofString "slope_ranks") 596), (.str (.ofString "/claim/cut.py") 597), (.int (81) 0), (.int (1) 0), (.int (0) 0), (.int (0) 0), (.int (3) 0), (.ref 204), (.bool true), (.int (370) 0), (.ref 205), .none, .none, .none, (.ref 206), (.int (598) 0), (.int (81) 0), (.str (.ofString "/claim/cut.py") 599)]), #[]⟩
def o208 : Obj := ⟨(.type "function"), none, (.func ⟨(.ofString "slope_ranks"), (.ofString "slope_ranks"), (defArgs (top 25)), .stmts (defBody (top 25)), (defScope (top 25)), 3, [], .none, .none, .none, (.str (.ofString "wherebase.base.order") 575), none, (.ref 207), .none, 0⟩), #[]⟩
def o214 : Obj := ⟨(.type "code"), none, (.fields #[(.str (.ofString "is_point") 603), (.str (.ofString "is_point") 604), (.str (.ofString "/claim/cut.py") 605), (.int (87) 0), (.int (1) 0), (.int (0) 0), (.int (0) 0), (.int (3) 0), (.ref 209), (.bool true), (.int (370) 0), (.ref 210), .none, (.ref 211), (.ref 212), (.ref 213), (.int (610) 0), (.int (87) 0), (.str (.ofString "/claim/cut.py") 611)]), #[]⟩
def o215 : Obj := ⟨(.type "function"), none, (.func ⟨(.ofString "is_point"), (.ofString "is_point"), (defArgs (top 27)), .stmts (defBody (top 27)), (defScope (top 27)), 3, [], .none, .none, .none, (.str (.ofString "wherebase.base.points") 601), none, (.ref 214), .none, 0⟩), #[]⟩
def o235 : Obj := ⟨(.type "code"), none, (.fields #[(.str (.ofString "__init__") 634), (.str (.ofString "Groups.__init__") 635), (.str (.ofString "/claim/cut.py") 636), (.int (101) 0), (.int (2) 0), (.int (0) 0), (.int (0) 0), (.int (3) 0), (.ref 230), (.bool true), (.int (370) 0), (.ref 231), .none, (.ref 232), (.ref 233), (.ref 234), (.int (639) 0), (.int (101) 0), (.str (.ofString "/claim/cut.py") 640)]), #[]⟩
def o236 : Obj := ⟨(.type "function"), none, (.func ⟨(.ofString "__init__"), (.ofString "Groups.__init__"), (defArgs (inClass (top 30) 0)), .stmts (defBody (inClass (top 30) 0)), (defScope (inClass (top 30) 0)), 3, [], .none, .none, .none, (.str (.ofString "wherebase.plane.groups") 620), none, (.ref 235), .none, 0⟩), #[]⟩
def o242 : Obj := ⟨(.type "code"), none, (.fields #[(.str (.ofString "least") 642), (.str (.ofString "Groups.least") 643), (.str (.ofString "/claim/cut.py") 644), (.int (104) 0), (.int (2) 0), (.int (0) 0), (.int (0) 0), (.int (3) 0), (.ref 237), (.bool true), (.int (370) 0), (.ref 238), .none, (.ref 239), (.ref 240), (.ref 241), (.int (648) 0), (.int (104) 0), (.str (.ofString "/claim/cut.py") 649)]), #[]⟩
def o243 : Obj := ⟨(.type "function"), none, (.func ⟨(.ofString "least"), (.ofString "Groups.least"), (defArgs (inClass (top 30) 1)), .stmts (defBody (inClass (top 30) 1)), (defScope (inClass (top 30) 1)), 3, [], .none, .none, .none, (.str (.ofString "wherebase.plane.groups") 620), none, (.ref 242), .none, 0⟩), #[]⟩
def o249 : Obj := ⟨(.type "code"), none, (.fields #[(.str (.ofString "unite") 651), (.str (.ofString "Groups.unite") 652), (.str (.ofString "/claim/cut.py") 653), (.int (111) 0), (.int (3) 0), (.int (0) 0), (.int (0) 0), (.int (3) 0), (.ref 244), (.bool true), (.int (370) 0), (.ref 245), .none, (.ref 246), (.ref 247), (.ref 248), (.int (657) 0), (.int (111) 0), (.str (.ofString "/claim/cut.py") 658)]), #[]⟩
def o250 : Obj := ⟨(.type "function"), none, (.func ⟨(.ofString "unite"), (.ofString "Groups.unite"), (defArgs (inClass (top 30) 2)), .stmts (defBody (inClass (top 30) 2)), (defScope (inClass (top 30) 2)), 3, [], .none, .none, .none, (.str (.ofString "wherebase.plane.groups") 620), none, (.ref 249), .none, 0⟩), #[]⟩
def o254 : Obj := ⟨(.type "code"), none, (.fields #[(.str (.ofString "all_least") 660), (.str (.ofString "Groups.all_least") 661), (.str (.ofString "/claim/cut.py") 662), (.int (115) 0), (.int (1) 0), (.int (0) 0), (.int (0) 0), (.int (3) 0), (.ref 251), (.bool true), (.int (370) 0), (.ref 252), .none, .none, .none, (.ref 253), (.int (663) 0), (.int (115) 0), (.str (.ofString "/claim/cut.py") 664)]), #[]⟩
def o255 : Obj := ⟨(.type "function"), none, (.func ⟨(.ofString "all_least"), (.ofString "Groups.all_least"), (defArgs (inClass (top 30) 3)), .stmts (defBody (inClass (top 30) 3)), (defScope (inClass (top 30) 3)), 3, [], .none, .none, .none, (.str (.ofString "wherebase.plane.groups") 620), none, (.ref 254), .none, 0⟩), #[]⟩
def o256 : Obj := ⟨(.type "tuple"), none, (.seq #[(.str (.ofString "_lower") 666)] 0), #[]⟩
def o257 (P : Params) : Obj := ⟨(.type "dict"), none, (.dict #[⟨PyData.keyHash P (.ofString "__module__"), (.str (.ofString "__module__") 629), (.str (.ofString "wherebase.plane.groups") 620)⟩, ⟨PyData.keyHash P (.ofString "__firstlineno__"), (.str (.ofString "__firstlineno__") 633), (.int (99) 632)⟩, ⟨PyData.keyHash P (.ofString "__init__"), (.str (.ofString "__init__") 641), (.ref 236)⟩, ⟨PyData.keyHash P (.ofString "least"), (.str (.ofString "least") 650), (.ref 243)⟩, ⟨PyData.keyHash P (.ofString "unite"), (.str (.ofString "unite") 659), (.ref 250)⟩, ⟨PyData.keyHash P (.ofString "all_least"), (.str (.ofString "all_least") 665), (.ref 255)⟩, ⟨PyData.keyHash P (.ofString "__static_attributes__"), (.str (.ofString "__static_attributes__") 667), (.ref 256)⟩, ⟨PyData.keyHash P (.ofString "__dict__"), (.str (.ofString "__dict__") 669), (.ref 259)⟩, ⟨PyData.keyHash P (.ofString "__weakref__"), (.str (.ofString "__weakref__") 671), (.ref 260)⟩, ⟨PyData.keyHash P (.ofString "__doc__"), (.str (.ofString "__doc__") 672), .none⟩] 4), #[]⟩
def o258 : Obj := ⟨(.type "type"), none, (.cls ⟨(.ofString "Groups"), [(.type "object")], [(.ref 258), (.type "object")], 257, (.ofString "Groups"), true, [], [], false, none, false⟩), #[none, none, (some (.str (.ofString "Groups") 622)), (some (.str (.ofString "Groups") 630)), (some (.builtin "object.__new__")), (some (.bool true))]⟩
def o259 : Obj := ⟨(.type "getset_descriptor"), none, (.fields #[(.str (.ofString "__dict__") 668), (.ref 258), (.builtin "function.__dict__"), (.builtin "function.__dict__#set")]), #[]⟩
def o260 : Obj := ⟨(.type "getset_descriptor"), none, (.fields #[(.str (.ofString "__weakref__") 670), (.ref 258), (.builtin "ExceptionGroup.__weakref__"), .none]), #[]⟩
def o266 : Obj := ⟨(.type "code"), none, (.fields #[(.str (.ofString "form_of") 677), (.str (.ofString "form_of") 678), (.str (.ofString "/claim/cut.py") 679), (.int (118) 0), (.int (4) 0), (.int (0) 0), (.int (0) 0), (.int (3) 0), (.ref 263), (.bool true), (.int (370) 0), (.ref 264), .none, .none, .none, (.ref 265), (.int (680) 0), (.int (118) 0), (.str (.ofString "/claim/cut.py") 681)]), #[]⟩
def o267 : Obj := ⟨(.type "function"), none, (.func ⟨(.ofString "form_of"), (.ofString "form_of"), (defArgs (top 32)), .stmts (defBody (top 32)), (defScope (top 32)), 3, [], .none, .none, .none, (.str (.ofString "wherebase.plane.forms") 675), none, (.ref 266), .none, 0⟩), #[]⟩
def o271 : Obj := ⟨(.type "code"), none, (.fields #[(.str (.ofString "pieces_of") 683), (.str (.ofString "pieces_of") 684), (.str (.ofString "/claim/cut.py") 685), (.int (124) 0), (.int (2) 0), (.int (0) 0), (.int (0) 0), (.int (3) 0), (.ref 268), (.bool true), (.int (370) 0), (.ref 269), .none, .none, .none, (.ref 270), (.int (686) 0), (.int (124) 0), (.str (.ofString "/claim/cut.py") 687)]), #[]⟩
def o272 : Obj := ⟨(.type "function"), none, (.func ⟨(.ofString "pieces_of"), (.ofString "pieces_of"), (defArgs (top 33)), .stmts (defBody (top 33)), (defScope (top 33)), 3, [], .none, .none, .none, (.str (.ofString "wherebase.plane.forms") 675), none, (.ref 271), .none, 0⟩), #[]⟩
def o281 : Obj := ⟨(.type "code"), none, (.fields #[(.str (.ofString "_areas") 695), (.str (.ofString "_areas") 696), (.str (.ofString "/claim/cut.py") 697), (.int (140) 0), (.int (2) 0), (.int (0) 0), (.int (0) 0), (.int (3) 0), (.ref 278), (.bool true), (.int (370) 0), (.ref 279), .none, .none, .none, (.ref 280), (.int (698) 0), (.int (140) 0), (.str (.ofString "/claim/cut.py") 699)]), #[]⟩
def o282 : Obj := ⟨(.type "function"), none, (.func ⟨(.ofString "_areas"), (.ofString "_areas"), (defArgs (top 35)), .stmts (defBody (top 35)), (defScope (top 35)), 3, [], .none, .none, .none, (.str (.ofString "wherebase.plane.forms") 675), none, (.ref 281), .none, 0⟩), #[]⟩
def o288 : Obj := ⟨(.type "code"), none, (.fields #[(.str (.ofString "_owners") 701), (.str (.ofString "_owners") 702), (.str (.ofString "/claim/cut.py") 703), (.int (149) 0), (.int (2) 0), (.int (0) 0), (.int (0) 0), (.int (3) 0), (.ref 283), (.bool true), (.int (370) 0), (.ref 284), .none, (.ref 285), (.ref 286), (.ref 287), (.int (713) 0), (.int (149) 0), (.str (.ofString "/claim/cut.py") 714)]), #[]⟩
def o289 : Obj := ⟨(.type "function"), none, (.func ⟨(.ofString "_owners"), (.ofString "_owners"), (defArgs (top 36)), .stmts (defBody (top 36)), (defScope (top 36)), 3, [], .none, .none, .none, (.str (.ofString "wherebase.plane.forms") 675), none, (.ref 288), .none, 0⟩), #[]⟩
def o324 : Obj := ⟨(.type "code"), none, (.fields #[(.str (.ofString "_is_alone") 763), (.str (.ofString "_is_alone") 764), (.str (.ofString "/claim/cut.py") 765), (.int (192) 0), (.int (4) 0), (.int (0) 0), (.int (0) 0), (.int (3) 0), (.ref 321), (.bool true), (.int (370) 0), (.ref 322), .none, .none, .none, (.ref 323), (.int (766) 0), (.int (192) 0), (.str (.ofString "/claim/cut.py") 767)]), #[]⟩
def o325 : Obj := ⟨(.type "function"), none, (.func ⟨(.ofString "_is_alone"), (.ofString "_is_alone"), (defArgs (top 42)), .stmts (defBody (top 42)), (defScope (top 42)), 3, [], .none, .none, .none, (.str (.ofString "wherebase.plane.forms") 675), none, (.ref 324), .none, 0⟩), #[]⟩
def o329 : Obj := ⟨(.type "code"), none, (.fields #[(.str (.ofString "cut") 771), (.str (.ofString "cut") 772), (.str (.ofString "/claim/cut.py") 773), (.int (197) 0), (.int (2) 0), (.int (0) 0), (.int (0) 0), (.int (3) 0), (.ref 326), (.bool true), (.int (370) 0), (.ref 327), .none, .none, .none, (.ref 328), (.int (774) 0), (.int (197) 0), (.str (.ofString "/claim/cut.py") 775)]), #[]⟩
def o330 : Obj := ⟨(.type "function"), none, (.func ⟨(.ofString "cut"), (.ofString "cut"), (defArgs (top 44)), .stmts (defBody (top 44)), (defScope (top 44)), 3, [], .none, .none, .none, (.str (.ofString "wherebase.plane.cuts") 769), none, (.ref 329), .none, 0⟩), #[]⟩
def o334 : Obj := ⟨(.type "code"), none, (.fields #[(.str (.ofString "_points_on_sides") 777), (.str (.ofString "_points_on_sides") 778), (.str (.ofString "/claim/cut.py") 779), (.int (210) 0), (.int (2) 0), (.int (0) 0), (.int (0) 0), (.int (3) 0), (.ref 331), (.bool true), (.int (370) 0), (.ref 332), .none, .none, .none, (.ref 333), (.int (780) 0), (.int (210) 0), (.str (.ofString "/claim/cut.py") 781)]), #[]⟩
def o335 : Obj := ⟨(.type "function"), none, (.func ⟨(.ofString "_points_on_sides"), (.ofString "_points_on_sides"), (defArgs (top 45)), .stmts (defBody (top 45)), (defScope (top 45)), 3, [], .none, .none, .none, (.str (.ofString "wherebase.plane.cuts") 769), none, (.ref 334), .none, 0⟩), #[]⟩
def o341 : Obj := ⟨(.type "code"), none, (.fields #[(.str (.ofString "half_below") 785), (.str (.ofString "half_below") 786), (.str (.ofString "/claim/cut.py") 787), (.int (224) 0), (.int (2) 0), (.int (0) 0), (.int (0) 0), (.int (3) 0), (.ref 336), (.bool true), (.int (370) 0), (.ref 337), .none, (.ref 338), (.ref 339), (.ref 340), (.int (797) 0), (.int (224) 0), (.str (.ofString "/claim/cut.py") 798)]), #[]⟩
def o342 : Obj := ⟨(.type "function"), none, (.func ⟨(.ofString "half_below"), (.ofString "half_below"), (defArgs (top 47)), .stmts (defBody (top 47)), (defScope (top 47)), 3, [], .none, .none, .none, (.str (.ofString "wherebase.plane.under") 783), none, (.ref 341), .none, 0⟩), #[]⟩
def o360 : Obj := ⟨(.type "code"), none, (.fields #[(.str (.ofString "__init__") 825), (.str (.ofString "Web.__init__") 826), (.str (.ofString "/claim/cut.py") 827), (.int (248) 0), (.int (3) 0), (.int (0) 0), (.int (0) 0), (.int (3) 0), (.ref 357), (.bool true), (.int (370) 0), (.ref 358), .none, .none, .none, (.ref 359), (.int (828) 0), (.int (248) 0), (.str (.ofString "/claim/cut.py") 829)]), #[]⟩
def o361 : Obj := ⟨(.type "function"), none, (.func ⟨(.ofString "__init__"), (.ofString "Web.__init__"), (defArgs (inClass (top 50) 0)), .stmts (defBody (inClass (top 50) 0)), (defScope (inClass (top 50) 0)), 3, [], .none, .none, .none, (.str (.ofString "wherebase.plane.webs") 811), none, (.ref 360), .none, 0⟩), #[]⟩
def o367 : Obj := ⟨(.type "code"), none, (.fields #[(.str (.ofString "tail") 831), (.str (.ofString "Web.tail") 832), (.str (.ofString "/claim/cut.py") 833), (.int (264) 0), (.int (2) 0), (.int (0) 0), (.int (0) 0), (.int (3) 0), (.ref 362), (.bool true), (.int (370) 0), (.ref 363), .none, (.ref 364), (.ref 365), (.ref 366), (.int (836) 0), (.int (264) 0), (.str (.ofString "/claim/cut.py") 837)]), #[]⟩
def o368 : Obj := ⟨(.type "function"), none, (.func ⟨(.ofString "tail"), (.ofString "Web.tail"), (defArgs (inClass (top 50) 1)), .stmts (defBody (inClass (top 50) 1)), (defScope (inClass (top 50) 1)), 3, [], .none, .none, .none, (.str (.ofString "wherebase.plane.webs") 811), none, (.ref 367), .none, 0⟩), #[]⟩
def o374 : Obj := ⟨(.type "code"), none, (.fields #[(.str (.ofString "head") 839), (.str (.ofString "Web.head") 840), (.str (.ofString "/claim/cut.py") 841), (.int (267) 0), (.int (2) 0), (.int (0) 0), (.int (0) 0), (.int (3) 0), (.ref 369), (.bool true), (.int (370) 0), (.ref 370), .none, (.ref 371), (.ref 372), (.ref 373), (.int (844) 0), (.int (267) 0), (.str (.ofString "/claim/cut.py") 845)]), #[]⟩
def o375 : Obj := ⟨(.type "function"), none, (.func ⟨(.ofString "head"), (.ofString "Web.head"), (defArgs (inClass (top 50) 2)), .stmts (defBody (inClass (top 50) 2)), (defScope (inClass (top 50) 2)), 3, [], .none, .none, .none, (.str (.ofString "wherebase.plane.webs") 811), none, (.ref 374), .none, 0⟩), #[]⟩
def o381 : Obj := ⟨(.type "code"), none, (.fields #[(.str (.ofString "half_from") 847), (.str (.ofString "Web.half_from") 848), (.str (.ofString "/claim/cut.py") 849), (.int (270) 0), (.int (3) 0), (.int (0) 0), (.int (0) 0), (.int (3) 0), (.ref 376), (.bool true), (.int (370) 0), (.ref 377), .none, (.ref 378), (.ref 379), (.ref 380), (.int (853) 0), (.int (270) 0), (.str (.ofString "/claim/cut.py") 854)]), #[]⟩
def o382 : Obj := ⟨(.type "function"), none, (.func ⟨(.ofString "half_from"), (.ofString "Web.half_from"), (defArgs (inClass (top 50) 3)), .stmts (defBody (inClass (top 50) 3)), (defScope (inClass (top 50) 3)), 3, [], .none, .none, .none, (.str (.ofString "wherebase.plane.webs") 811), none, (.ref 381), .none, 0⟩), #[]⟩
def o388 : Obj := ⟨(.type "code"), none, (.fields #[(.str (.ofString "room_around") 856), (.str (.ofString "Web.room_around") 857), (.str (.ofString "/claim/cut.py") 858), (.int (275) 0), (.int (2) 0), (.int (0) 0), (.int (0) 0), (.int (3) 0), (.ref 383), (.bool true), (.int (370) 0), (.ref 384), .none, (.ref 385), (.ref 386), (.ref 387), (.int (861) 0), (.int (275) 0), (.str (.ofString "/claim/cut.py") 862)]), #[]⟩
def o389 : Obj := ⟨(.type "function"), none, (.func ⟨(.ofString "room_around"), (.ofString "Web.room_around"), (defArgs (inClass (top 50) 4)), .stmts (defBody (inClass (top 50) 4)), (defScope (inClass (top 50) 4)), 3, [], .none, .none, .none, (.str (.ofString "wherebase.plane.webs") 811), none, (.ref 388), .none, 0⟩), #[]⟩
def o393 : Obj := ⟨(.type "code"), none, (.fields #[(.str (.ofString "_turned") 864), (.str (.ofString "Web._turned") 865), (.str (.ofString "/claim/cut.py") 866), (.int (280) 0), (.int (1) 0), (.int (0) 0), (.int (0) 0), (.int (3) 0), (.ref 390), (.bool true), (.int (370) 0), (.ref 391), .none, .none, .none, (.ref 392), (.int (867) 0), (.int (280) 0), (.str (.ofString "/claim/cut.py") 868)]), #[]⟩
def o394 : Obj := ⟨(.type "function"), none, (.func ⟨(.ofString "_turned"), (.ofString "Web._turned"), (defArgs (inClass (top 50) 5)), .stmts (defBody (inClass (top 50) 5)), (defScope (inClass (top 50) 5)), 3, [], .none, .none, .none, (.str (.ofString "wherebase.plane.webs") 811), none, (.ref 393), .none, 0⟩), #[]⟩
def o398 : Obj := ⟨(.type "code"), none, (.fields #[(.str (.ofString "_gathered") 870), (.str (.ofString "Web._gathered") 871), (.str (.ofString "/claim/cut.py") 872), (.int (291) 0), (.int (1) 0), (.int (0) 0), (.int (0) 0), (.int (3) 0), (.ref 395), (.bool true), (.int (370) 0), (.ref 396), .none, .none, .none, (.ref 397), (.int (873) 0), (.int (291) 0), (.str (.ofString "/claim/cut.py") 874)]), #[]⟩
def o399 : Obj := ⟨(.type "function"), none, (.func ⟨(.ofString "_gathered"), (.ofString "Web._gathered"), (defArgs (inClass (top 50) 6)), .stmts (defBody (inClass (top 50) 6)), (defScope (inClass (top 50) 6)), 3, [], .none, .none, .none, (.str (.ofString "wherebase.plane.webs") 811), none, (.ref 398), .none, 0⟩), #[]⟩
def o405 : Obj := ⟨(.type "code"), none, (.fields #[(.str (.ofString "_followed") 876), (.str (.ofString "Web._followed") 877), (.str (.ofString "/claim/cut.py") 878), (.int (297) 0), (.int (1) 0), (.int (0) 0), (.int (0) 0), (.int (3) 0), (.ref 400), (.bool true), (.int (370) 0), (.ref 401), .none, (.ref 402), (.ref 403), (.ref 404), (.int (884) 0), (.int (297) 0), (.str (.ofString "/claim/cut.py") 885)]), #[]⟩
def o406 : Obj := ⟨(.type "function"), none, (.func ⟨(.ofString "_followed"), (.ofString "Web._followed"), (defArgs (inClass (top 50) 7)), .stmts (defBody (inClass (top 50) 7)), (defScope (inClass (top 50) 7)), 3, [], .none, .none, .none, (.str (.ofString "wherebase.plane.webs") 811), none, (.ref 405), .none, 0⟩), #[]⟩
def o410 : Obj := ⟨(.type "code"), none, (.fields #[(.str (.ofString "_first_spots") 887), (.str (.ofString "Web._first_spots") 888), (.str (.ofString "/claim/cut.py") 889), (.int (304) 0), (.int (1) 0), (.int (0) 0), (.int (0) 0), (.int (3) 0), (.ref 407), (.bool true), (.int (370) 0), (.ref 408), .none, .none, .none, (.ref 409), (.int (890) 0), (.int (304) 0), (.str (.ofString "/claim/cut.py") 891)]), #[]⟩
def o411 : Obj := ⟨(.type "function"), none, (.func ⟨(.ofString "_first_spots"), (.ofString "Web._first_spots"), (defArgs (inClass (top 50) 8)), .stmts (defBody (inClass (top 50) 8)), (defScope (inClass (top 50) 8)), 3, [], .none, .none, .none, (.str (.ofString "wherebase.plane.webs") 811), none, (.ref 410), .none, 0⟩), #[]⟩
def o417 : Obj := ⟨(.type "code"), none, (.fields #[(.str (.ofString "_see_part") 893), (.str (.ofString "Web._see_part") 894), (.str (.ofString "/claim/cut.py") 895), (.int (313) 0), (.int (3) 0), (.int (0) 0), (.int (0) 0), (.int (3) 0), (.ref 412), (.bool true), (.int (370) 0), (.ref 413), .none, (.ref 414), (.ref 415), (.ref 416), (.int (903) 0), (.int (313) 0), (.str (.ofString "/claim/cut.py") 904)]), #[]⟩
def o418 : Obj := ⟨(.type "function"), none, (.func ⟨(.ofString "_see_part"), (.ofString "Web._see_part"), (defArgs (inClass (top 50) 9)), .stmts (defBody (inClass (top 50) 9)), (defScope (inClass (top 50) 9)), 3, [], .none, .none, .none, (.str (.ofString "wherebase.plane.webs") 811), none, (.ref 417), .none, 0⟩), #[]⟩
def o422 : Obj := ⟨(.type "code"), none, (.fields #[(.str (.ofString "_settle_rooms") 906), (.str (.ofString "Web._settle_rooms") 907), (.str (.ofString "/claim/cut.py") 908), (.int (324) 0), (.int (1) 0), (.int (0) 0), (.int (0) 0), (.int (3) 0), (.ref 419), (.bool true), (.int (370) 0), (.ref 420), .none, .none, .none, (.ref 421), (.int (909) 0), (.int (324) 0), (.str (.ofString "/claim/cut.py") 910)]), #[]⟩
def o423 : Obj := ⟨(.type "function"), none, (.func ⟨(.ofString "_settle_rooms"), (.ofString "Web._settle_rooms"), (defArgs (inClass (top 50) 10)), .stmts (defBody (inClass (top 50) 10)), (defScope (inClass (top 50) 10)), 3, [], .none, .none, .none, (.str (.ofString "wherebase.plane.webs") 811), none, (.ref 422), .none, 0⟩), #[]⟩
def o429 : Obj := ⟨(.type "code"), none, (.fields #[(.str (.ofString "room_of_point") 912), (.str (.ofString "Web.room_of_point") 913), (.str (.ofString "/claim/cut.py") 914), (.int (346) 0), (.int (2) 0), (.int (0) 0), (.int (0) 0), (.int (3) 0), (.ref 424), (.bool true), (.int (370) 0), (.ref 425), .none, (.ref 426), (.ref 427), (.ref 428), (.int (918) 0), (.int (346) 0), (.str (.ofString "/claim/cut.py") 919)]), #[]⟩
def o430 : Obj := ⟨(.type "function"), none, (.func ⟨(.ofString "room_of_point"), (.ofString "Web.room_of_point"), (defArgs (inClass (top 50) 11)), .stmts (defBody (inClass (top 50) 11)), (defScope (inClass (top 50) 11)), 3, [], .none, .none, .none, (.str (.ofString "wherebase.plane.webs") 811), none, (.ref 429), .none, 0⟩), #[]⟩
def o431 : Obj := ⟨(.type "tuple"), none, (.seq #[(.str (.ofString "after") 921), (.str (.ofString "borders") 922), (.str (.ofString "chains") 923), (.str (.ofString "covering") 924), (.str (.ofString "first_spots") 925), (.str (.ofString "half_turn") 926), (.str (.ofString "leaving") 927), (.str (.ofString "lone_rooms") 928), (.str (.ofString "room_at") 929), (.str (.ofString "room_count") 930), (.str (.ofString "rooms_left") 931), (.str (.ofString "rulers") 932), (.str (.ofString "spans") 933), (.str (.ofString "spot_at") 934), (.str (.ofString "spots") 935), (.str (.ofString "steps") 936), (.str (.ofString "tie_at") 937), (.str (.ofString "ties") 938), (.str (.ofString "turns") 939), (.str (.ofString "walk_at") 940), (.str (.ofString "walks") 941)] 0), #[]⟩
def o432 (P : Params) : Obj := ⟨(.type "dict"), none, (.dict #[⟨PyData.keyHash P (.ofString "__module__"), (.str (.ofString "__module__") 820), (.str (.ofString "wherebase.plane.webs") 811)⟩, ⟨PyData.keyHash P (.ofString "__firstlineno__"), (.str (.ofString "__firstlineno__") 824), (.int (246) 823)⟩, ⟨PyData.keyHash P (.ofString "__init__"), (.str (.ofString "__init__") 830), (.ref 361)⟩, ⟨PyData.keyHash P (.ofString "tail"), (.str (.ofString "tail") 838), (.ref 368)⟩, ⟨PyData.keyHash P (.ofString "head"), (.str (.ofString "head") 846), (.ref 375)⟩, ⟨PyData.keyHash P (.ofString "half_from"), (.str (.ofString "half_from") 855), (.ref 382)⟩, ⟨PyData.keyHash P (.ofString "room_around"), (.str (.ofString "room_around") 863), (.ref 389)⟩, ⟨PyData.keyHash P (.ofString "_turned"), (.str (.ofString "_turned") 869), (.ref 394)⟩, ⟨PyData.keyHash P (.ofString "_gathered"), (.str (.ofString "_gathered") 875), (.ref 399)⟩, ⟨PyData.keyHash P (.ofString "_followed"), (.str (.ofString "_followed") 886), (.ref 406)⟩, ⟨PyData.keyHash P (.ofString "_first_spots"), (.str (.ofString "_first_spots") 892), (.ref 411)⟩, ⟨PyData.keyHash P (.ofString "_see_part"), (.str (.ofString "_see_part") 905), (.ref 418)⟩, ⟨PyData.keyHash P (.ofString "_settle_rooms"), (.str (.ofString "_settle_rooms") 911), (.ref 423)⟩, ⟨PyData.keyHash P (.ofString "room_of_point"), (.str (.ofString "room_of_point") 920), (.ref 430)⟩, ⟨PyData.keyHash P (.ofString "__static_attributes__"), (.str (.ofString "__static_attributes__") 942), (.ref 431)⟩, ⟨PyData.keyHash P (.ofString "__dict__"), (.str (.ofString "__dict__") 944), (.ref 434)⟩, ⟨PyData.keyHash P (.ofString "__weakref__"), (.str (.ofString "__weakref__") 946), (.ref 435)⟩, ⟨PyData.keyHash P (.ofString "__doc__"), (.str (.ofString "__doc__") 947), .none⟩] 4), #[]⟩
def o433 : Obj := ⟨(.type "type"), none, (.cls ⟨(.ofString "Web"), [(.type "object")], [(.ref 433), (.type "object")], 432, (.ofString "Web"), true, [], [], false, none, false⟩), #[none, none, (some (.str (.ofString "Web") 813)), (some (.str (.ofString "Web") 821)), (some (.builtin "object.__new__")), (some (.bool true))]⟩
def o434 : Obj := ⟨(.type "getset_descriptor"), none, (.fields #[(.str (.ofString "__dict__") 943), (.ref 433), (.builtin "function.__dict__"), (.builtin "function.__dict__#set")]), #[]⟩
def o435 : Obj := ⟨(.type "getset_descriptor"), none, (.fields #[(.str (.ofString "__weakref__") 945), (.ref 433), (.builtin "ExceptionGroup.__weakref__"), .none]), #[]⟩
def o441 : Obj := ⟨(.type "code"), none, (.fields #[(.str (.ofString "_linked") 950), (.str (.ofString "_linked") 951), (.str (.ofString "/claim/cut.py") 952), (.int (351) 0), (.int (1) 0), (.int (0) 0), (.int (0) 0), (.int (3) 0), (.ref 438), (.bool true), (.int (370) 0), (.ref 439), .none, .none, .none, (.ref 440), (.int (953) 0), (.int (351) 0), (.str (.ofString "/claim/cut.py") 954)]), #[]⟩
def o442 : Obj := ⟨(.type "function"), none, (.func ⟨(.ofString "_linked"), (.ofString "_linked"), (defArgs (top 51)), .stmts (defBody (top 51)), (defScope (top 51)), 3, [], .none, .none, .none, (.str (.ofString "wherebase.plane.webs") 811), none, (.ref 441), .none, 0⟩), #[]⟩
def o448 : Obj := ⟨(.type "code"), none, (.fields #[(.str (.ofString "_walked") 956), (.str (.ofString "_walked") 957), (.str (.ofString "/claim/cut.py") 958), (.int (358) 0), (.int (1) 0), (.int (0) 0), (.int (0) 0), (.int (3) 0), (.ref 443), (.bool true), (.int (370) 0), (.ref 444), .none, (.ref 445), (.ref 446), (.ref 447), (.int (965) 0), (.int (358) 0), (.str (.ofString "/claim/cut.py") 966)]), #[]⟩
def o449 : Obj := ⟨(.type "function"), none, (.func ⟨(.ofString "_walked"), (.ofString "_walked"), (defArgs (top 52)), .stmts (defBody (top 52)), (defScope (top 52)), 3, [], .none, .none, .none, (.str (.ofString "wherebase.plane.webs") 811), none, (.ref 448), .none, 0⟩), #[]⟩
def o453 : Obj := ⟨(.type "code"), none, (.fields #[(.str (.ofString "ring_sides") 970), (.str (.ofString "ring_sides") 971), (.str (.ofString "/claim/cut.py") 972), (.int (372) 0), (.int (1) 0), (.int (0) 0), (.int (0) 0), (.int (3) 0), (.ref 450), (.bool true), (.int (370) 0), (.ref 451), .none, .none, .none, (.ref 452), (.int (973) 0), (.int (372) 0), (.str (.ofString "/claim/cut.py") 974)]), #[]⟩
def o454 : Obj := ⟨(.type "function"), none, (.func ⟨(.ofString "ring_sides"), (.ofString "ring_sides"), (defArgs (top 54)), .stmts (defBody (top 54)), (defScope (top 54)), 3, [], .none, .none, .none, (.str (.ofString "wherebase.plane.sheets") 968), none, (.ref 453), .none, 0⟩), #[]⟩
def o460 : Obj := ⟨(.type "code"), none, (.fields #[(.str (.ofString "flooded") 976), (.str (.ofString "flooded") 977), (.str (.ofString "/claim/cut.py") 978), (.int (374) 0), (.int (2) 0), (.int (0) 0), (.int (0) 0), (.int (3) 0), (.ref 455), (.bool true), (.int (370) 0), (.ref 456), .none, (.ref 457), (.ref 458), (.ref 459), (.int (987) 0), (.int (374) 0), (.str (.ofString "/claim/cut.py") 988)]), #[]⟩
def o461 : Obj := ⟨(.type "function"), none, (.func ⟨(.ofString "flooded"), (.ofString "flooded"), (defArgs (top 55)), .stmts (defBody (top 55)), (defScope (top 55)), 3, [], .none, .none, .none, (.str (.ofString "wherebase.plane.sheets") 968), none, (.ref 460), .none, 0⟩), #[]⟩
def o538 : Obj := ⟨(.type "code"), none, (.fields #[(.str (.ofString "is_told_corner") 1112), (.str (.ofString "is_told_corner") 1113), (.str (.ofString "/claim/cut.py") 1114), (.int (483) 0), (.int (1) 0), (.int (0) 0), (.int (0) 0), (.int (3) 0), (.ref 533), (.bool true), (.int (370) 0), (.ref 534), .none, (.ref 535), (.ref 536), (.ref 537), (.int (1116) 0), (.int (483) 0), (.str (.ofString "/claim/cut.py") 1117)]), #[]⟩
def o539 : Obj := ⟨(.type "function"), none, (.func ⟨(.ofString "is_told_corner"), (.ofString "is_told_corner"), (defArgs (top 64)), .stmts (defBody (top 64)), (defScope (top 64)), 3, [], .none, .none, .none, (.str (.ofString "wherebase.plane.told") 1110), none, (.ref 538), .none, 0⟩), #[]⟩
def o543 : Obj := ⟨(.type "code"), none, (.fields #[(.str (.ofString "are_told_corners") 1119), (.str (.ofString "are_told_corners") 1120), (.str (.ofString "/claim/cut.py") 1121), (.int (487) 0), (.int (1) 0), (.int (0) 0), (.int (0) 0), (.int (3) 0), (.ref 540), (.bool true), (.int (370) 0), (.ref 541), .none, .none, .none, (.ref 542), (.int (1122) 0), (.int (487) 0), (.str (.ofString "/claim/cut.py") 1123)]), #[]⟩
def o544 : Obj := ⟨(.type "function"), none, (.func ⟨(.ofString "are_told_corners"), (.ofString "are_told_corners"), (defArgs (top 65)), .stmts (defBody (top 65)), (defScope (top 65)), 3, [], .none, .none, .none, (.str (.ofString "wherebase.plane.told") 1110), none, (.ref 543), .none, 0⟩), #[]⟩
def o550 : Obj := ⟨(.type "code"), none, (.fields #[(.str (.ofString "is_told_ring") 1125), (.str (.ofString "is_told_ring") 1126), (.str (.ofString "/claim/cut.py") 1127), (.int (489) 0), (.int (1) 0), (.int (0) 0), (.int (0) 0), (.int (3) 0), (.ref 545), (.bool true), (.int (370) 0), (.ref 546), .none, (.ref 547), (.ref 548), (.ref 549), (.int (1129) 0), (.int (489) 0), (.str (.ofString "/claim/cut.py") 1130)]), #[]⟩
def o551 : Obj := ⟨(.type "function"), none, (.func ⟨(.ofString "is_told_ring"), (.ofString "is_told_ring"), (defArgs (top 66)), .stmts (defBody (top 66)), (defScope (top 66)), 3, [], .none, .none, .none, (.str (.ofString "wherebase.plane.told") 1110), none, (.ref 550), .none, 0⟩), #[]⟩
def o555 : Obj := ⟨(.type "code"), none, (.fields #[(.str (.ofString "is_told_area") 1132), (.str (.ofString "is_told_area") 1133), (.str (.ofString "/claim/cut.py") 1134), (.int (491) 0), (.int (1) 0), (.int (0) 0), (.int (0) 0), (.int (3) 0), (.ref 552), (.bool true), (.int (370) 0), (.ref 553), .none, .none, .none, (.ref 554), (.int (1135) 0), (.int (491) 0), (.str (.ofString "/claim/cut.py") 1136)]), #[]⟩
def o556 : Obj := ⟨(.type "function"), none, (.func ⟨(.ofString "is_told_area"), (.ofString "is_told_area"), (defArgs (top 67)), .stmts (defBody (top 67)), (defScope (top 67)), 3, [], .none, .none, .none, (.str (.ofString "wherebase.plane.told") 1110), none, (.ref 555), .none, 0⟩), #[]⟩
def o562 : Obj := ⟨(.type "code"), none, (.fields #[(.str (.ofString "is_told_piece") 1138), (.str (.ofString "is_told_piece") 1139), (.str (.ofString "/claim/cut.py") 1140), (.int (493) 0), (.int (1) 0), (.int (0) 0), (.int (0) 0), (.int (3) 0), (.ref 557), (.bool true), (.int (370) 0), (.ref 558), .none, (.ref 559), (.ref 560), (.ref 561), (.int (1142) 0), (.int (493) 0), (.str (.ofString "/claim/cut.py") 1143)]), #[]⟩
def o563 : Obj := ⟨(.type "function"), none, (.func ⟨(.ofString "is_told_piece"), (.ofString "is_told_piece"), (defArgs (top 68)), .stmts (defBody (top 68)), (defScope (top 68)), 3, [], .none, .none, .none, (.str (.ofString "wherebase.plane.told") 1110), none, (.ref 562), .none, 0⟩), #[]⟩
def o567 : Obj := ⟨(.type "code"), none, (.fields #[(.str (.ofString "is_told_shape") 1145), (.str (.ofString "is_told_shape") 1146), (.str (.ofString "/claim/cut.py") 1147), (.int (495) 0), (.int (3) 0), (.int (0) 0), (.int (0) 0), (.int (3) 0), (.ref 564), (.bool true), (.int (370) 0), (.ref 565), .none, .none, .none, (.ref 566), (.int (1148) 0), (.int (495) 0), (.str (.ofString "/claim/cut.py") 1149)]), #[]⟩
def o568 : Obj := ⟨(.type "function"), none, (.func ⟨(.ofString "is_told_shape"), (.ofString "is_told_shape"), (defArgs (top 69)), .stmts (defBody (top 69)), (defScope (top 69)), 3, [], .none, .none, .none, (.str (.ofString "wherebase.plane.told") 1110), none, (.ref 567), .none, 0⟩), #[]⟩
def o572 : Obj := ⟨(.type "code"), none, (.fields #[(.str (.ofString "told_size") 1151), (.str (.ofString "told_size") 1152), (.str (.ofString "/claim/cut.py") 1153), (.int (501) 0), (.int (3) 0), (.int (0) 0), (.int (0) 0), (.int (3) 0), (.ref 569), (.bool true), (.int (370) 0), (.ref 570), .none, .none, .none, (.ref 571), (.int (1154) 0), (.int (501) 0), (.str (.ofString "/claim/cut.py") 1155)]), #[]⟩
def o573 : Obj := ⟨(.type "function"), none, (.func ⟨(.ofString "told_size"), (.ofString "told_size"), (defArgs (top 70)), .stmts (defBody (top 70)), (defScope (top 70)), 3, [], .none, .none, .none, (.str (.ofString "wherebase.plane.told") 1110), none, (.ref 572), .none, 0⟩), #[]⟩
def o579 : Obj := ⟨(.type "code"), none, (.fields #[(.str (.ofString "told_point") 1157), (.str (.ofString "told_point") 1158), (.str (.ofString "/claim/cut.py") 1159), (.int (503) 0), (.int (1) 0), (.int (0) 0), (.int (0) 0), (.int (3) 0), (.ref 574), (.bool true), (.int (370) 0), (.ref 575), .none, (.ref 576), (.ref 577), (.ref 578), (.int (1161) 0), (.int (503) 0), (.str (.ofString "/claim/cut.py") 1162)]), #[]⟩
def o580 : Obj := ⟨(.type "function"), none, (.func ⟨(.ofString "told_point"), (.ofString "told_point"), (defArgs (top 71)), .stmts (defBody (top 71)), (defScope (top 71)), 3, [], .none, .none, .none, (.str (.ofString "wherebase.plane.told") 1110), none, (.ref 579), .none, 0⟩), #[]⟩
def o584 : Obj := ⟨(.type "code"), none, (.fields #[(.str (.ofString "told_points") 1164), (.str (.ofString "told_points") 1165), (.str (.ofString "/claim/cut.py") 1166), (.int (507) 0), (.int (1) 0), (.int (0) 0), (.int (0) 0), (.int (3) 0), (.ref 581), (.bool true), (.int (370) 0), (.ref 582), .none, .none, .none, (.ref 583), (.int (1167) 0), (.int (507) 0), (.str (.ofString "/claim/cut.py") 1168)]), #[]⟩
def o585 : Obj := ⟨(.type "function"), none, (.func ⟨(.ofString "told_points"), (.ofString "told_points"), (defArgs (top 72)), .stmts (defBody (top 72)), (defScope (top 72)), 3, [], .none, .none, .none, (.str (.ofString "wherebase.plane.told") 1110), none, (.ref 584), .none, 0⟩), #[]⟩
def o589 : Obj := ⟨(.type "code"), none, (.fields #[(.str (.ofString "told_form") 1170), (.str (.ofString "told_form") 1171), (.str (.ofString "/claim/cut.py") 1172), (.int (509) 0), (.int (3) 0), (.int (0) 0), (.int (0) 0), (.int (3) 0), (.ref 586), (.bool true), (.int (370) 0), (.ref 587), .none, .none, .none, (.ref 588), (.int (1173) 0), (.int (509) 0), (.str (.ofString "/claim/cut.py") 1174)]), #[]⟩
def o590 : Obj := ⟨(.type "function"), none, (.func ⟨(.ofString "told_form"), (.ofString "told_form"), (defArgs (top 73)), .stmts (defBody (top 73)), (defScope (top 73)), 3, [], .none, .none, .none, (.str (.ofString "wherebase.plane.told") 1110), none, (.ref 589), .none, 0⟩), #[]⟩
def o651 : Obj := ⟨(.type "code"), none, (.fields #[(.str (.ofString "__init__") 1261), (.str (.ofString "Shape.__init__") 1262), (.str (.ofString "/claim/cut.py") 1263), (.int (593) 0), (.int (4) 0), (.int (0) 0), (.int (0) 0), (.int (3) 0), (.ref 646), (.bool true), (.int (370) 0), (.ref 647), .none, (.ref 648), (.ref 649), (.ref 650), (.int (1268) 0), (.int (593) 0), (.str (.ofString "/claim/cut.py") 1269)]), #[]⟩
def o652 : Obj := ⟨(.type "function"), none, (.func ⟨(.ofString "__init__"), (.ofString "Shape.__init__"), (defArgs (inClass (top 86) 0)), .stmts (defBody (inClass (top 86) 0)), (defScope (inClass (top 86) 0)), 3, [], .none, .none, .none, (.str (.ofString "wherebase.shape.shapes") 1245), none, (.ref 651), .none, 0⟩), #[]⟩
def o656 : Obj := ⟨(.type "code"), none, (.fields #[(.str (.ofString "_take_form") 1271), (.str (.ofString "Shape._take_form") 1272), (.str (.ofString "/claim/cut.py") 1273), (.int (599) 0), (.int (2) 0), (.int (0) 0), (.int (0) 0), (.int (3) 0), (.ref 653), (.bool true), (.int (370) 0), (.ref 654), .none, .none, .none, (.ref 655), (.int (1274) 0), (.int (599) 0), (.str (.ofString "/claim/cut.py") 1275)]), #[]⟩
def o657 : Obj := ⟨(.type "function"), none, (.func ⟨(.ofString "_take_form"), (.ofString "Shape._take_form"), (defArgs (inClass (top 86) 1)), .stmts (defBody (inClass (top 86) 1)), (defScope (inClass (top 86) 1)), 3, [], .none, .none, .none, (.str (.ofString "wherebase.shape.shapes") 1245), none, (.ref 656), .none, 0⟩), #[]⟩
def o663 : Obj := ⟨(.type "code"), none, (.fields #[(.str (.ofString "areas") 1277), (.str (.ofString "Shape.areas") 1278), (.str (.ofString "/claim/cut.py") 1279), (.int (605) 0), (.int (1) 0), (.int (0) 0), (.int (0) 0), (.int (3) 0), (.ref 658), (.bool true), (.int (370) 0), (.ref 659), .none, (.ref 660), (.ref 661), (.ref 662), (.int (1281) 0), (.int (605) 0), (.str (.ofString "/claim/cut.py") 1282)]), #[]⟩
def o664 : Obj := ⟨(.type "function"), none, (.func ⟨(.ofString "areas"), (.ofString "Shape.areas"), (defArgs (inClass (top 86) 2)), .stmts (defBody (inClass (top 86) 2)), (defScope (inClass (top 86) 2)), 3, [], .none, .none, .none, (.str (.ofString "wherebase.shape.shapes") 1245), none, (.ref 663), .none, 0⟩), #[]⟩
def o665 : Obj := ⟨(.type "property"), none, (.fields #[(.ref 664), .none, .none, .none, (.str (.ofString "areas") 1284), (.bool false)]), #[]⟩
def o671 : Obj := ⟨(.type "code"), none, (.fields #[(.str (.ofString "pieces") 1285), (.str (.ofString "Shape.pieces") 1286), (.str (.ofString "/claim/cut.py") 1287), (.int (609) 0), (.int (1) 0), (.int (0) 0), (.int (0) 0), (.int (3) 0), (.ref 666), (.bool true), (.int (370) 0), (.ref 667), .none, (.ref 668), (.ref 669), (.ref 670), (.int (1289) 0), (.int (609) 0), (.str (.ofString "/claim/cut.py") 1290)]), #[]⟩
def o672 : Obj := ⟨(.type "function"), none, (.func ⟨(.ofString "pieces"), (.ofString "Shape.pieces"), (defArgs (inClass (top 86) 3)), .stmts (defBody (inClass (top 86) 3)), (defScope (inClass (top 86) 3)), 3, [], .none, .none, .none, (.str (.ofString "wherebase.shape.shapes") 1245), none, (.ref 671), .none, 0⟩), #[]⟩
def o673 : Obj := ⟨(.type "property"), none, (.fields #[(.ref 672), .none, .none, .none, (.str (.ofString "pieces") 1292), (.bool false)]), #[]⟩
def o679 : Obj := ⟨(.type "code"), none, (.fields #[(.str (.ofString "points") 1293), (.str (.ofString "Shape.points") 1294), (.str (.ofString "/claim/cut.py") 1295), (.int (613) 0), (.int (1) 0), (.int (0) 0), (.int (0) 0), (.int (3) 0), (.ref 674), (.bool true), (.int (370) 0), (.ref 675), .none, (.ref 676), (.ref 677), (.ref 678), (.int (1297) 0), (.int (613) 0), (.str (.ofString "/claim/cut.py") 1298)]), #[]⟩
def o680 : Obj := ⟨(.type "function"), none, (.func ⟨(.ofString "points"), (.ofString "Shape.points"), (defArgs (inClass (top 86) 4)), .stmts (defBody (inClass (top 86) 4)), (defScope (inClass (top 86) 4)), 3, [], .none, .none, .none, (.str (.ofString "wherebase.shape.shapes") 1245), none, (.ref 679), .none, 0⟩), #[]⟩
def o681 : Obj := ⟨(.type "property"), none, (.fields #[(.ref 680), .none, .none, .none, (.str (.ofString "points") 1300), (.bool false)]), #[]⟩
def o687 : Obj := ⟨(.type "code"), none, (.fields #[(.str (.ofString "form") 1301), (.str (.ofString "Shape.form") 1302), (.str (.ofString "/claim/cut.py") 1303), (.int (617) 0), (.int (1) 0), (.int (0) 0), (.int (0) 0), (.int (3) 0), (.ref 682), (.bool true), (.int (370) 0), (.ref 683), .none, (.ref 684), (.ref 685), (.ref 686), (.int (1305) 0), (.int (617) 0), (.str (.ofString "/claim/cut.py") 1306)]), #[]⟩
def o688 : Obj := ⟨(.type "function"), none, (.func ⟨(.ofString "form"), (.ofString "Shape.form"), (defArgs (inClass (top 86) 5)), .stmts (defBody (inClass (top 86) 5)), (defScope (inClass (top 86) 5)), 3, [], .none, .none, .none, (.str (.ofString "wherebase.shape.shapes") 1245), none, (.ref 687), .none, 0⟩), #[]⟩
def o689 : Obj := ⟨(.type "property"), none, (.fields #[(.ref 688), .none, .none, .none, (.str (.ofString "form") 1308), (.bool false)]), #[]⟩
def o695 : Obj := ⟨(.type "code"), none, (.fields #[(.str (.ofString "dimension") 1309), (.str (.ofString "Shape.dimension") 1310), (.str (.ofString "/claim/cut.py") 1311), (.int (621) 0), (.int (1) 0), (.int (0) 0), (.int (0) 0), (.int (3) 0), (.ref 690), (.bool true), (.int (370) 0), (.ref 691), .none, (.ref 692), (.ref 693), (.ref 694), (.int (1313) 0), (.int (621) 0), (.str (.ofString "/claim/cut.py") 1314)]), #[]⟩
def o696 : Obj := ⟨(.type "function"), none, (.func ⟨(.ofString "dimension"), (.ofString "Shape.dimension"), (defArgs (inClass (top 86) 6)), .stmts (defBody (inClass (top 86) 6)), (defScope (inClass (top 86) 6)), 3, [], .none, .none, .none, (.str (.ofString "wherebase.shape.shapes") 1245), none, (.ref 695), .none, 0⟩), #[]⟩
def o697 : Obj := ⟨(.type "property"), none, (.fields #[(.ref 696), .none, .none, .none, (.str (.ofString "dimension") 1316), (.bool false)]), #[]⟩
def o703 : Obj := ⟨(.type "code"), none, (.fields #[(.str (.ofString "sides") 1317), (.str (.ofString "Shape.sides") 1318), (.str (.ofString "/claim/cut.py") 1319), (.int (625) 0), (.int (1) 0), (.int (0) 0), (.int (0) 0), (.int (3) 0), (.ref 698), (.bool true), (.int (370) 0), (.ref 699), .none, (.ref 700), (.ref 701), (.ref 702), (.int (1321) 0), (.int (625) 0), (.str (.ofString "/claim/cut.py") 1322)]), #[]⟩
def o704 : Obj := ⟨(.type "function"), none, (.func ⟨(.ofString "sides"), (.ofString "Shape.sides"), (defArgs (inClass (top 86) 7)), .stmts (defBody (inClass (top 86) 7)), (defScope (inClass (top 86) 7)), 3, [], .none, .none, .none, (.str (.ofString "wherebase.shape.shapes") 1245), none, (.ref 703), .none, 0⟩), #[]⟩
def o705 : Obj := ⟨(.type "property"), none, (.fields #[(.ref 704), .none, .none, .none, (.str (.ofString "sides") 1324), (.bool false)]), #[]⟩
def o711 : Obj := ⟨(.type "code"), none, (.fields #[(.str (.ofString "__contains__") 1325), (.str (.ofString "Shape.__contains__") 1326), (.str (.ofString "/claim/cut.py") 1327), (.int (629) 0), (.int (2) 0), (.int (0) 0), (.int (0) 0), (.int (3) 0), (.ref 706), (.bool true), (.int (370) 0), (.ref 707), .none, (.ref 708), (.ref 709), (.ref 710), (.int (1330) 0), (.int (629) 0), (.str (.ofString "/claim/cut.py") 1331)]), #[]⟩
def o712 : Obj := ⟨(.type "function"), none, (.func ⟨(.ofString "__contains__"), (.ofString "Shape.__contains__"), (defArgs (inClass (top 86) 8)), .stmts (defBody (inClass (top 86) 8)), (defScope (inClass (top 86) 8)), 3, [], .none, .none, .none, (.str (.ofString "wherebase.shape.shapes") 1245), none, (.ref 711), .none, 0⟩), #[]⟩
def o718 : Obj := ⟨(.type "code"), none, (.fields #[(.str (.ofString "__bool__") 1333), (.str (.ofString "Shape.__bool__") 1334), (.str (.ofString "/claim/cut.py") 1335), (.int (632) 0), (.int (1) 0), (.int (0) 0), (.int (0) 0), (.int (3) 0), (.ref 713), (.bool true), (.int (370) 0), (.ref 714), .none, (.ref 715), (.ref 716), (.ref 717), (.int (1337) 0), (.int (632) 0), (.str (.ofString "/claim/cut.py") 1338)]), #[]⟩
def o719 : Obj := ⟨(.type "function"), none, (.func ⟨(.ofString "__bool__"), (.ofString "Shape.__bool__"), (defArgs (inClass (top 86) 9)), .stmts (defBody (inClass (top 86) 9)), (defScope (inClass (top 86) 9)), 3, [], .none, .none, .none, (.str (.ofString "wherebase.shape.shapes") 1245), none, (.ref 718), .none, 0⟩), #[]⟩
def o725 : Obj := ⟨(.type "code"), none, (.fields #[(.str (.ofString "__len__") 1340), (.str (.ofString "Shape.__len__") 1341), (.str (.ofString "/claim/cut.py") 1342), (.int (635) 0), (.int (1) 0), (.int (0) 0), (.int (0) 0), (.int (3) 0), (.ref 720), (.bool true), (.int (370) 0), (.ref 721), .none, (.ref 722), (.ref 723), (.ref 724), (.int (1344) 0), (.int (635) 0), (.str (.ofString "/claim/cut.py") 1345)]), #[]⟩
def o726 : Obj := ⟨(.type "function"), none, (.func ⟨(.ofString "__len__"), (.ofString "Shape.__len__"), (defArgs (inClass (top 86) 10)), .stmts (defBody (inClass (top 86) 10)), (defScope (inClass (top 86) 10)), 3, [], .none, .none, .none, (.str (.ofString "wherebase.shape.shapes") 1245), none, (.ref 725), .none, 0⟩), #[]⟩
def o732 : Obj := ⟨(.type "code"), none, (.fields #[(.str (.ofString "__eq__") 1347), (.str (.ofString "Shape.__eq__") 1348), (.str (.ofString "/claim/cut.py") 1349), (.int (638) 0), (.int (2) 0), (.int (0) 0), (.int (0) 0), (.int (3) 0), (.ref 727), (.bool true), (.int (370) 0), (.ref 728), .none, (.ref 729), (.ref 730), (.ref 731), (.int (1352) 0), (.int (638) 0), (.str (.ofString "/claim/cut.py") 1353)]), #[]⟩
def o733 : Obj := ⟨(.type "function"), none, (.func ⟨(.ofString "__eq__"), (.ofString "Shape.__eq__"), (defArgs (inClass (top 86) 11)), .stmts (defBody (inClass (top 86) 11)), (defScope (inClass (top 86) 11)), 3, [], .none, .none, .none, (.str (.ofString "wherebase.shape.shapes") 1245), none, (.ref 732), .none, 0⟩), #[]⟩
def o739 : Obj := ⟨(.type "code"), none, (.fields #[(.str (.ofString "__str__") 1355), (.str (.ofString "Shape.__str__") 1356), (.str (.ofString "/claim/cut.py") 1357), (.int (641) 0), (.int (1) 0), (.int (0) 0), (.int (0) 0), (.int (3) 0), (.ref 734), (.bool true), (.int (370) 0), (.ref 735), .none, (.ref 736), (.ref 737), (.ref 738), (.int (1362) 0), (.int (641) 0), (.str (.ofString "/claim/cut.py") 1363)]), #[]⟩
def o740 : Obj := ⟨(.type "function"), none, (.func ⟨(.ofString "__str__"), (.ofString "Shape.__str__"), (defArgs (inClass (top 86) 12)), .stmts (defBody (inClass (top 86) 12)), (defScope (inClass (top 86) 12)), 3, [], .none, .none, .none, (.str (.ofString "wherebase.shape.shapes") 1245), none, (.ref 739), .none, 0⟩), #[]⟩
def o741 : Obj := ⟨(.type "tuple"), none, (.seq #[(.str (.ofString "_form") 1365), (.str (.ofString "_members") 1366), (.str (.ofString "_sides") 1367)] 0), #[]⟩
def o742 (P : Params) : Obj := ⟨(.type "dict"), none, (.dict #[⟨PyData.keyHash P (.ofString "__module__"), (.str (.ofString "__module__") 1256), (.str (.ofString "wherebase.shape.shapes") 1245)⟩, ⟨PyData.keyHash P (.ofString "__firstlineno__"), (.str (.ofString "__firstlineno__") 1260), (.int (591) 1259)⟩, ⟨PyData.keyHash P (.ofString "__init__"), (.str (.ofString "__init__") 1270), (.ref 652)⟩, ⟨PyData.keyHash P (.ofString "_take_form"), (.str (.ofString "_take_form") 1276), (.ref 657)⟩, ⟨PyData.keyHash P (.ofString "areas"), (.str (.ofString "areas") 1284), (.ref 665)⟩, ⟨PyData.keyHash P (.ofString "pieces"), (.str (.ofString "pieces") 1292), (.ref 673)⟩, ⟨PyData.keyHash P (.ofString "points"), (.str (.ofString "points") 1300), (.ref 681)⟩, ⟨PyData.keyHash P (.ofString "form"), (.str (.ofString "form") 1308), (.ref 689)⟩, ⟨PyData.keyHash P (.ofString "dimension"), (.str (.ofString "dimension") 1316), (.ref 697)⟩, ⟨PyData.keyHash P (.ofString "sides"), (.str (.ofString "sides") 1324), (.ref 705)⟩, ⟨PyData.keyHash P (.ofString "__contains__"), (.str (.ofString "__contains__") 1332), (.ref 712)⟩, ⟨PyData.keyHash P (.ofString "__bool__"), (.str (.ofString "__bool__") 1339), (.ref 719)⟩, ⟨PyData.keyHash P (.ofString "__len__"), (.str (.ofString "__len__") 1346), (.ref 726)⟩, ⟨PyData.keyHash P (.ofString "__eq__"), (.str (.ofString "__eq__") 1354), (.ref 733)⟩, ⟨PyData.keyHash P (.ofString "__str__"), (.str (.ofString "__str__") 1364), (.ref 740)⟩, ⟨PyData.keyHash P (.ofString "__static_attributes__"), (.str (.ofString "__static_attributes__") 1368), (.ref 741)⟩, ⟨PyData.keyHash P (.ofString "__dict__"), (.str (.ofString "__dict__") 1370), (.ref 744)⟩, ⟨PyData.keyHash P (.ofString "__weakref__"), (.str (.ofString "__weakref__") 1372), (.ref 745)⟩, ⟨PyData.keyHash P (.ofString "__doc__"), (.str (.ofString "__doc__") 1373), .none⟩, ⟨PyData.keyHash P (.ofString "__hash__"), (.str (.ofString "__hash__") 1374), .none⟩] 5), #[]⟩
def o743 : Obj := ⟨(.type "type"), none, (.cls ⟨(.ofString "Shape"), [(.type "object")], [(.ref 743), (.type "object")], 742, (.ofString "Shape"), true, [], [], false, none, false⟩), #[none, none, (some (.str (.ofString "Shape") 1249)), (some (.str (.ofString "Shape") 1257)), (some (.builtin "object.__new__")), (some (.bool true))]⟩
def o744 : Obj := ⟨(.type "getset_descriptor"), none, (.fields #[(.str (.ofString "__dict__") 1369), (.ref 743), (.builtin "function.__dict__"), (.builtin "function.__dict__#set")]), #[]⟩
def o745 : Obj := ⟨(.type "getset_descriptor"), none, (.fields #[(.str (.ofString "__weakref__") 1371), (.ref 743), (.builtin "ExceptionGroup.__weakref__"), .none]), #[]⟩
def o753 : Obj := ⟨(.type "code"), none, (.fields #[(.str (.ofString "shape_of") 1377), (.str (.ofString "shape_of") 1378), (.str (.ofString "/claim/cut.py") 1379), (.int (644) 0), (.int (1) 0), (.int (0) 0), (.int (0) 0), (.int (3) 0), (.ref 748), (.bool true), (.int (370) 0), (.ref 749), .none, (.ref 750), (.ref 751), (.ref 752), (.int (1382) 0), (.int (644) 0), (.str (.ofString "/claim/cut.py") 1383)]), #[]⟩
def o754 : Obj := ⟨(.type "function"), none, (.func ⟨(.ofString "shape_of"), (.ofString "shape_of"), (defArgs (top 87)), .stmts (defBody (top 87)), (defScope (top 87)), 3, [], .none, .none, .none, (.str (.ofString "wherebase.shape.shapes") 1245), none, (.ref 753), .none, 0⟩), #[]⟩
def o760 : Obj := ⟨(.type "code"), none, (.fields #[(.str (.ofString "check_shapes") 1385), (.str (.ofString "check_shapes") 1386), (.str (.ofString "/claim/cut.py") 1387), (.int (648) 0), (.int (0) 0), (.int (0) 0), (.int (0) 0), (.int (7) 0), (.ref 755), (.bool true), (.int (370) 0), (.ref 756), .none, (.ref 757), (.ref 758), (.ref 759), (.int (1390) 0), (.int (648) 0), (.str (.ofString "/claim/cut.py") 1391)]), #[]⟩
def o761 : Obj := ⟨(.type "function"), none, (.func ⟨(.ofString "check_shapes"), (.ofString "check_shapes"), (defArgs (top 88)), .stmts (defBody (top 88)), (defScope (top 88)), 3, [], .none, .none, .none, (.str (.ofString "wherebase.shape.shapes") 1245), none, (.ref 760), .none, 0⟩), #[]⟩
def o767 : Obj := ⟨(.type "code"), none, (.fields #[(.str (.ofString "check_told_size") 1393), (.str (.ofString "check_told_size") 1394), (.str (.ofString "/claim/cut.py") 1395), (.int (652) 0), (.int (1) 0), (.int (0) 0), (.int (0) 0), (.int (3) 0), (.ref 762), (.bool true), (.int (370) 0), (.ref 763), .none, (.ref 764), (.ref 765), (.ref 766), (.int (1397) 0), (.int (652) 0), (.str (.ofString "/claim/cut.py") 1398)]), #[]⟩
def o768 : Obj := ⟨(.type "function"), none, (.func ⟨(.ofString "check_told_size"), (.ofString "check_told_size"), (defArgs (top 89)), .stmts (defBody (top 89)), (defScope (top 89)), 3, [], .none, .none, .none, (.str (.ofString "wherebase.shape.shapes") 1245), none, (.ref 767), .none, 0⟩), #[]⟩
def o772 : Obj := ⟨(.type "code"), none, (.fields #[(.str (.ofString "check_drawn") 1400), (.str (.ofString "check_drawn") 1401), (.str (.ofString "/claim/cut.py") 1402), (.int (655) 0), (.int (0) 0), (.int (0) 0), (.int (0) 0), (.int (7) 0), (.ref 769), (.bool true), (.int (370) 0), (.ref 770), .none, .none, .none, (.ref 771), (.int (1403) 0), (.int (655) 0), (.str (.ofString "/claim/cut.py") 1404)]), #[]⟩
def o773 : Obj := ⟨(.type "function"), none, (.func ⟨(.ofString "check_drawn"), (.ofString "check_drawn"), (defArgs (top 90)), .stmts (defBody (top 90)), (defScope (top 90)), 3, [], .none, .none, .none, (.str (.ofString "wherebase.shape.shapes") 1245), none, (.ref 772), .none, 0⟩), #[]⟩
def o777 : Obj := ⟨(.type "code"), none, (.fields #[(.str (.ofString "sheet_of") 1406), (.str (.ofString "sheet_of") 1407), (.str (.ofString "/claim/cut.py") 1408), (.int (658) 0), (.int (0) 0), (.int (0) 0), (.int (0) 0), (.int (7) 0), (.ref 774), (.bool true), (.int (370) 0), (.ref 775), .none, .none, .none, (.ref 776), (.int (1409) 0), (.int (658) 0), (.str (.ofString "/claim/cut.py") 1410)]), #[]⟩
def o778 : Obj := ⟨(.type "function"), none, (.func ⟨(.ofString "sheet_of"), (.ofString "sheet_of"), (defArgs (top 91)), .stmts (defBody (top 91)), (defScope (top 91)), 3, [], .none, .none, .none, (.str (.ofString "wherebase.shape.shapes") 1245), none, (.ref 777), .none, 0⟩), #[]⟩
def o796 : Obj := ⟨(.type "code"), none, (.fields #[(.str (.ofString "area") 1426), (.str (.ofString "area") 1427), (.str (.ofString "/claim/cut.py") 1428), (.int (665) 0), (.int (0) 0), (.int (0) 0), (.int (0) 0), (.int (7) 0), (.ref 791), (.bool true), (.int (370) 0), (.ref 792), .none, (.ref 793), (.ref 794), (.ref 795), (.int (1430) 0), (.int (665) 0), (.str (.ofString "/claim/cut.py") 1431)]), #[]⟩
def o797 : Obj := ⟨(.type "function"), none, (.func ⟨(.ofString "area"), (.ofString "area"), (defArgs (top 94)), .stmts (defBody (top 94)), (defScope (top 94)), 3, [], .none, .none, .none, (.str (.ofString "wherebase.shape.shapes") 1245), none, (.ref 796), .none, 0⟩), #[]⟩
def o803 : Obj := ⟨(.type "code"), none, (.fields #[(.str (.ofString "filled") 1433), (.str (.ofString "filled") 1434), (.str (.ofString "/claim/cut.py") 1435), (.int (667) 0), (.int (0) 0), (.int (0) 0), (.int (0) 0), (.int (7) 0), (.ref 798), (.bool true), (.int (370) 0), (.ref 799), .none, (.ref 800), (.ref 801), (.ref 802), (.int (1437) 0), (.int (667) 0), (.str (.ofString "/claim/cut.py") 1438)]), #[]⟩
def o804 : Obj := ⟨(.type "function"), none, (.func ⟨(.ofString "filled"), (.ofString "filled"), (defArgs (top 95)), .stmts (defBody (top 95)), (defScope (top 95)), 3, [], .none, .none, .none, (.str (.ofString "wherebase.shape.shapes") 1245), none, (.ref 803), .none, 0⟩), #[]⟩
def o810 : Obj := ⟨(.type "code"), none, (.fields #[(.str (.ofString "line") 1440), (.str (.ofString "line") 1441), (.str (.ofString "/claim/cut.py") 1442), (.int (671) 0), (.int (0) 0), (.int (0) 0), (.int (0) 0), (.int (7) 0), (.ref 805), (.bool true), (.int (370) 0), (.ref 806), .none, (.ref 807), (.ref 808), (.ref 809), (.int (1444) 0), (.int (671) 0), (.str (.ofString "/claim/cut.py") 1445)]), #[]⟩
def o811 : Obj := ⟨(.type "function"), none, (.func ⟨(.ofString "line"), (.ofString "line"), (defArgs (top 96)), .stmts (defBody (top 96)), (defScope (top 96)), 3, [], .none, .none, .none, (.str (.ofString "wherebase.shape.shapes") 1245), none, (.ref 810), .none, 0⟩), #[]⟩
def o817 : Obj := ⟨(.type "code"), none, (.fields #[(.str (.ofString "dots") 1447), (.str (.ofString "dots") 1448), (.str (.ofString "/claim/cut.py") 1449), (.int (676) 0), (.int (0) 0), (.int (0) 0), (.int (0) 0), (.int (7) 0), (.ref 812), (.bool true), (.int (370) 0), (.ref 813), .none, (.ref 814), (.ref 815), (.ref 816), (.int (1451) 0), (.int (676) 0), (.str (.ofString "/claim/cut.py") 1452)]), #[]⟩
def o818 : Obj := ⟨(.type "function"), none, (.func ⟨(.ofString "dots"), (.ofString "dots"), (defArgs (top 97)), .stmts (defBody (top 97)), (defScope (top 97)), 3, [], .none, .none, .none, (.str (.ofString "wherebase.shape.shapes") 1245), none, (.ref 817), .none, 0⟩), #[]⟩
def o824 : Obj := ⟨(.type "code"), none, (.fields #[(.str (.ofString "empty") 1454), (.str (.ofString "empty") 1455), (.str (.ofString "/claim/cut.py") 1456), (.int (678) 0), (.int (0) 0), (.int (0) 0), (.int (0) 0), (.int (3) 0), (.ref 819), (.bool true), (.int (370) 0), (.ref 820), .none, (.ref 821), (.ref 822), (.ref 823), (.int (1457) 0), (.int (678) 0), (.str (.ofString "/claim/cut.py") 1458)]), #[]⟩
def o825 : Obj := ⟨(.type "function"), none, (.func ⟨(.ofString "empty"), (.ofString "empty"), (defArgs (top 98)), .stmts (defBody (top 98)), (defScope (top 98)), 3, [], .none, .none, .none, (.str (.ofString "wherebase.shape.shapes") 1245), none, (.ref 824), .none, 0⟩), #[]⟩
def o831 : Obj := ⟨(.type "code"), none, (.fields #[(.str (.ofString "place") 1460), (.str (.ofString "place") 1461), (.str (.ofString "/claim/cut.py") 1462), (.int (680) 0), (.int (2) 0), (.int (0) 0), (.int (0) 0), (.int (3) 0), (.ref 826), (.bool true), (.int (370) 0), (.ref 827), .none, (.ref 828), (.ref 829), (.ref 830), (.int (1465) 0), (.int (680) 0), (.str (.ofString "/claim/cut.py") 1466)]), #[]⟩
def o832 : Obj := ⟨(.type "function"), none, (.func ⟨(.ofString "place"), (.ofString "place"), (defArgs (top 99)), .stmts (defBody (top 99)), (defScope (top 99)), 3, [], .none, .none, .none, (.str (.ofString "wherebase.shape.shapes") 1245), none, (.ref 831), .none, 0⟩), #[]⟩
def o836 : Obj := ⟨(.type "code"), none, (.fields #[(.str (.ofString "border") 1468), (.str (.ofString "border") 1469), (.str (.ofString "/claim/cut.py") 1470), (.int (685) 0), (.int (1) 0), (.int (0) 0), (.int (0) 0), (.int (3) 0), (.ref 833), (.bool true), (.int (370) 0), (.ref 834), .none, .none, .none, (.ref 835), (.int (1471) 0), (.int (685) 0), (.str (.ofString "/claim/cut.py") 1472)]), #[]⟩
def o837 : Obj := ⟨(.type "function"), none, (.func ⟨(.ofString "border"), (.ofString "border"), (defArgs (top 100)), .stmts (defBody (top 100)), (defScope (top 100)), 3, [], .none, .none, .none, (.str (.ofString "wherebase.shape.shapes") 1245), none, (.ref 836), .none, 0⟩), #[]⟩
def o843 : Obj := ⟨(.type "code"), none, (.fields #[(.str (.ofString "body") 1474), (.str (.ofString "body") 1475), (.str (.ofString "/claim/cut.py") 1476), (.int (699) 0), (.int (1) 0), (.int (0) 0), (.int (0) 0), (.int (3) 0), (.ref 838), (.bool true), (.int (370) 0), (.ref 839), .none, (.ref 840), (.ref 841), (.ref 842), (.int (1478) 0), (.int (699) 0), (.str (.ofString "/claim/cut.py") 1479)]), #[]⟩
def o844 : Obj := ⟨(.type "function"), none, (.func ⟨(.ofString "body"), (.ofString "body"), (defArgs (top 101)), .stmts (defBody (top 101)), (defScope (top 101)), 3, [], .none, .none, .none, (.str (.ofString "wherebase.shape.shapes") 1245), none, (.ref 843), .none, 0⟩), #[]⟩
def o850 : Obj := ⟨(.type "code"), none, (.fields #[(.str (.ofString "lines") 1481), (.str (.ofString "lines") 1482), (.str (.ofString "/claim/cut.py") 1483), (.int (702) 0), (.int (1) 0), (.int (0) 0), (.int (0) 0), (.int (3) 0), (.ref 845), (.bool true), (.int (370) 0), (.ref 846), .none, (.ref 847), (.ref 848), (.ref 849), (.int (1485) 0), (.int (702) 0), (.str (.ofString "/claim/cut.py") 1486)]), #[]⟩
def o851 : Obj := ⟨(.type "function"), none, (.func ⟨(.ofString "lines"), (.ofString "lines"), (defArgs (top 102)), .stmts (defBody (top 102)), (defScope (top 102)), 3, [], .none, .none, .none, (.str (.ofString "wherebase.shape.shapes") 1245), none, (.ref 850), .none, 0⟩), #[]⟩
def o857 : Obj := ⟨(.type "code"), none, (.fields #[(.str (.ofString "lone") 1488), (.str (.ofString "lone") 1489), (.str (.ofString "/claim/cut.py") 1490), (.int (705) 0), (.int (1) 0), (.int (0) 0), (.int (0) 0), (.int (3) 0), (.ref 852), (.bool true), (.int (370) 0), (.ref 853), .none, (.ref 854), (.ref 855), (.ref 856), (.int (1492) 0), (.int (705) 0), (.str (.ofString "/claim/cut.py") 1493)]), #[]⟩
def o858 : Obj := ⟨(.type "function"), none, (.func ⟨(.ofString "lone"), (.ofString "lone"), (defArgs (top 103)), .stmts (defBody (top 103)), (defScope (top 103)), 3, [], .none, .none, .none, (.str (.ofString "wherebase.shape.shapes") 1245), none, (.ref 857), .none, 0⟩), #[]⟩
def o862 : Obj := ⟨(.type "code"), none, (.fields #[(.str (.ofString "parts") 1495), (.str (.ofString "parts") 1496), (.str (.ofString "/claim/cut.py") 1497), (.int (708) 0), (.int (1) 0), (.int (0) 0), (.int (0) 0), (.int (3) 0), (.ref 859), (.bool true), (.int (370) 0), (.ref 860), .none, .none, .none, (.ref 861), (.int (1498) 0), (.int (708) 0), (.str (.ofString "/claim/cut.py") 1499)]), #[]⟩
def o863 : Obj := ⟨(.type "function"), none, (.func ⟨(.ofString "parts"), (.ofString "parts"), (defArgs (top 104)), .stmts (defBody (top 104)), (defScope (top 104)), 3, [], .none, .none, .none, (.str (.ofString "wherebase.shape.shapes") 1245), none, (.ref 862), .none, 0⟩), #[]⟩
def o867 : Obj := ⟨(.type "code"), none, (.fields #[(.str (.ofString "area_shapes") 1501), (.str (.ofString "area_shapes") 1502), (.str (.ofString "/claim/cut.py") 1503), (.int (725) 0), (.int (1) 0), (.int (0) 0), (.int (0) 0), (.int (3) 0), (.ref 864), (.bool true), (.int (370) 0), (.ref 865), .none, .none, .none, (.ref 866), (.int (1504) 0), (.int (725) 0), (.str (.ofString "/claim/cut.py") 1505)]), #[]⟩
def o868 : Obj := ⟨(.type "function"), none, (.func ⟨(.ofString "area_shapes"), (.ofString "area_shapes"), (defArgs (top 105)), .stmts (defBody (top 105)), (defScope (top 105)), 3, [], .none, .none, .none, (.str (.ofString "wherebase.shape.shapes") 1245), none, (.ref 867), .none, 0⟩), #[]⟩
def o872 : Obj := ⟨(.type "code"), none, (.fields #[(.str (.ofString "without_holes") 1507), (.str (.ofString "without_holes") 1508), (.str (.ofString "/claim/cut.py") 1509), (.int (728) 0), (.int (1) 0), (.int (0) 0), (.int (0) 0), (.int (3) 0), (.ref 869), (.bool true), (.int (370) 0), (.ref 870), .none, .none, .none, (.ref 871), (.int (1510) 0), (.int (728) 0), (.str (.ofString "/claim/cut.py") 1511)]), #[]⟩
def o873 : Obj := ⟨(.type "function"), none, (.func ⟨(.ofString "without_holes"), (.ofString "without_holes"), (defArgs (top 106)), .stmts (defBody (top 106)), (defScope (top 106)), 3, [], .none, .none, .none, (.str (.ofString "wherebase.shape.shapes") 1245), none, (.ref 872), .none, 0⟩), #[]⟩
def o879 : Obj := ⟨(.type "code"), none, (.fields #[(.str (.ofString "knots") 1513), (.str (.ofString "knots") 1514), (.str (.ofString "/claim/cut.py") 1515), (.int (732) 0), (.int (1) 0), (.int (0) 0), (.int (0) 0), (.int (3) 0), (.ref 874), (.bool true), (.int (370) 0), (.ref 875), .none, (.ref 876), (.ref 877), (.ref 878), (.int (1520) 0), (.int (732) 0), (.str (.ofString "/claim/cut.py") 1521)]), #[]⟩
def o880 : Obj := ⟨(.type "function"), none, (.func ⟨(.ofString "knots"), (.ofString "knots"), (defArgs (top 107)), .stmts (defBody (top 107)), (defScope (top 107)), 3, [], .none, .none, .none, (.str (.ofString "wherebase.shape.shapes") 1245), none, (.ref 879), .none, 0⟩), #[]⟩
def o886 : Obj := ⟨(.type "code"), none, (.fields #[(.str (.ofString "ring_flaws") 1523), (.str (.ofString "ring_flaws") 1524), (.str (.ofString "/claim/cut.py") 1525), (.int (739) 0), (.int (1) 0), (.int (0) 0), (.int (0) 0), (.int (3) 0), (.ref 881), (.bool true), (.int (370) 0), (.ref 882), .none, (.ref 883), (.ref 884), (.ref 885), (.int (1527) 0), (.int (739) 0), (.str (.ofString "/claim/cut.py") 1528)]), #[]⟩
def o887 : Obj := ⟨(.type "function"), none, (.func ⟨(.ofString "ring_flaws"), (.ofString "ring_flaws"), (defArgs (top 108)), .stmts (defBody (top 108)), (defScope (top 108)), 3, [], .none, .none, .none, (.str (.ofString "wherebase.shape.shapes") 1245), none, (.ref 886), .none, 0⟩), #[]⟩
def o891 : Obj := ⟨(.type "code"), none, (.fields #[(.str (.ofString "is_form") 1530), (.str (.ofString "is_form") 1531), (.str (.ofString "/claim/cut.py") 1532), (.int (744) 0), (.int (1) 0), (.int (0) 0), (.int (0) 0), (.int (3) 0), (.ref 888), (.bool true), (.int (370) 0), (.ref 889), .none, .none, .none, (.ref 890), (.int (1533) 0), (.int (744) 0), (.str (.ofString "/claim/cut.py") 1534)]), #[]⟩
def o892 : Obj := ⟨(.type "function"), none, (.func ⟨(.ofString "is_form"), (.ofString "is_form"), (defArgs (top 109)), .stmts (defBody (top 109)), (defScope (top 109)), 3, [], .none, .none, .none, (.str (.ofString "wherebase.shape.shapes") 1245), none, (.ref 891), .none, 0⟩), #[]⟩
def o898 : Obj := ⟨(.type "code"), none, (.fields #[(.str (.ofString "_law_bag") 1538), (.str (.ofString "_law_bag") 1539), (.str (.ofString "/claim/cut.py") 1540), (.int (755) 0), (.int (2) 0), (.int (0) 0), (.int (0) 0), (.int (3) 0), (.ref 893), (.bool true), (.int (370) 0), (.ref 894), .none, (.ref 895), (.ref 896), (.ref 897), (.int (1546) 0), (.int (755) 0), (.str (.ofString "/claim/cut.py") 1547)]), #[]⟩
def o899 : Obj := ⟨(.type "function"), none, (.func ⟨(.ofString "_law_bag"), (.ofString "_law_bag"), (defArgs (top 111)), .stmts (defBody (top 111)), (defScope (top 111)), 3, [], .none, .none, .none, (.str (.ofString "law_wherebase_k11_errors_of_shapes") 1536), none, (.ref 898), .none, 0⟩), #[]⟩
def o905 : Obj := ⟨(.type "code"), none, (.fields #[(.str (.ofString "_law_draw") 1549), (.str (.ofString "_law_draw") 1550), (.str (.ofString "/claim/cut.py") 1551), (.int (760) 0), (.int (2) 0), (.int (0) 0), (.int (0) 0), (.int (3) 0), (.ref 900), (.bool true), (.int (370) 0), (.ref 901), .none, (.ref 902), (.ref 903), (.ref 904), (.int (1557) 0), (.int (760) 0), (.str (.ofString "/claim/cut.py") 1558)]), #[]⟩
def o906 : Obj := ⟨(.type "function"), none, (.func ⟨(.ofString "_law_draw"), (.ofString "_law_draw"), (defArgs (top 112)), .stmts (defBody (top 112)), (defScope (top 112)), 3, [], .none, .none, .none, (.str (.ofString "law_wherebase_k11_errors_of_shapes") 1536), none, (.ref 905), .none, 0⟩), #[]⟩
def o912 : Obj := ⟨(.type "code"), none, (.fields #[(.str (.ofString "_law_one_of") 1560), (.str (.ofString "_law_one_of") 1561), (.str (.ofString "/claim/cut.py") 1562), (.int (769) 0), (.int (2) 0), (.int (0) 0), (.int (0) 0), (.int (3) 0), (.ref 907), (.bool true), (.int (370) 0), (.ref 908), .none, (.ref 909), (.ref 910), (.ref 911), (.int (1565) 0), (.int (769) 0), (.str (.ofString "/claim/cut.py") 1566)]), #[]⟩
def o913 : Obj := ⟨(.type "function"), none, (.func ⟨(.ofString "_law_one_of"), (.ofString "_law_one_of"), (defArgs (top 113)), .stmts (defBody (top 113)), (defScope (top 113)), 3, [], .none, .none, .none, (.str (.ofString "law_wherebase_k11_errors_of_shapes") 1536), none, (.ref 912), .none, 0⟩), #[]⟩
def o919 : Obj := ⟨(.type "code"), none, (.fields #[(.str (.ofString "_law_said") 1568), (.str (.ofString "_law_said") 1569), (.str (.ofString "/claim/cut.py") 1570), (.int (771) 0), (.int (1) 0), (.int (0) 0), (.int (0) 0), (.int (3) 0), (.ref 914), (.bool true), (.int (370) 0), (.ref 915), .none, (.ref 916), (.ref 917), (.ref 918), (.int (1573) 0), (.int (771) 0), (.str (.ofString "/claim/cut.py") 1574)]), #[]⟩
def o920 : Obj := ⟨(.type "function"), none, (.func ⟨(.ofString "_law_said"), (.ofString "_law_said"), (defArgs (top 114)), .stmts (defBody (top 114)), (defScope (top 114)), 3, [], .none, .none, .none, (.str (.ofString "law_wherebase_k11_errors_of_shapes") 1536), none, (.ref 919), .none, 0⟩), #[]⟩
def o926 : Obj := ⟨(.type "code"), none, (.fields #[(.str (.ofString "_law_told_wrong") 1576), (.str (.ofString "_law_told_wrong") 1577), (.str (.ofString "/claim/cut.py") 1578), (.int (781) 0), (.int (1) 0), (.int (0) 0), (.int (0) 0), (.int (3) 0), (.ref 921), (.bool true), (.int (370) 0), (.ref 922), .none, (.ref 923), (.ref 924), (.ref 925), (.int (1582) 0), (.int (781) 0), (.str (.ofString "/claim/cut.py") 1583)]), #[]⟩
def o927 : Obj := ⟨(.type "function"), none, (.func ⟨(.ofString "_law_told_wrong"), (.ofString "_law_told_wrong"), (defArgs (top 115)), .stmts (defBody (top 115)), (defScope (top 115)), 3, [], .none, .none, .none, (.str (.ofString "law_wherebase_k11_errors_of_shapes") 1536), none, (.ref 926), .none, 0⟩), #[]⟩
def o933 : Obj := ⟨(.type "code"), none, (.fields #[(.str (.ofString "_law_rows_wrong") 1585), (.str (.ofString "_law_rows_wrong") 1586), (.str (.ofString "/claim/cut.py") 1587), (.int (790) 0), (.int (1) 0), (.int (0) 0), (.int (0) 0), (.int (3) 0), (.ref 928), (.bool true), (.int (370) 0), (.ref 929), .none, (.ref 930), (.ref 931), (.ref 932), (.int (1591) 0), (.int (790) 0), (.str (.ofString "/claim/cut.py") 1592)]), #[]⟩
def o934 : Obj := ⟨(.type "function"), none, (.func ⟨(.ofString "_law_rows_wrong"), (.ofString "_law_rows_wrong"), (defArgs (top 116)), .stmts (defBody (top 116)), (defScope (top 116)), 3, [], .none, .none, .none, (.str (.ofString "law_wherebase_k11_errors_of_shapes") 1536), none, (.ref 933), .none, 0⟩), #[]⟩
def o940 : Obj := ⟨(.type "code"), none, (.fields #[(.str (.ofString "_law_shapes_wrong") 1594), (.str (.ofString "_law_shapes_wrong") 1595), (.str (.ofString "/claim/cut.py") 1596), (.int (798) 0), (.int (1) 0), (.int (0) 0), (.int (0) 0), (.int (3) 0), (.ref 935), (.bool true), (.int (370) 0), (.ref 936), .none, (.ref 937), (.ref 938), (.ref 939), (.int (1601) 0), (.int (798) 0), (.str (.ofString "/claim/cut.py") 1602)]), #[]⟩
def o941 : Obj := ⟨(.type "function"), none, (.func ⟨(.ofString "_law_shapes_wrong"), (.ofString "_law_shapes_wrong"), (defArgs (top 117)), .stmts (defBody (top 117)), (defScope (top 117)), 3, [], .none, .none, .none, (.str (.ofString "law_wherebase_k11_errors_of_shapes") 1536), none, (.ref 940), .none, 0⟩), #[]⟩
def o947 : Obj := ⟨(.type "code"), none, (.fields #[(.str (.ofString "_law_few") 1604), (.str (.ofString "_law_few") 1605), (.str (.ofString "/claim/cut.py") 1606), (.int (804) 0), (.int (0) 0), (.int (0) 0), (.int (0) 0), (.int (3) 0), (.ref 942), (.bool true), (.int (370) 0), (.ref 943), .none, (.ref 944), (.ref 945), (.ref 946), (.int (1608) 0), (.int (804) 0), (.str (.ofString "/claim/cut.py") 1609)]), #[]⟩
def o948 : Obj := ⟨(.type "function"), none, (.func ⟨(.ofString "_law_few"), (.ofString "_law_few"), (defArgs (top 118)), .stmts (defBody (top 118)), (defScope (top 118)), 3, [], .none, .none, .none, (.str (.ofString "law_wherebase_k11_errors_of_shapes") 1536), none, (.ref 947), .none, 0⟩), #[]⟩
def o952 : Obj := ⟨(.type "code"), none, (.fields #[(.str (.ofString "_law_right") 1611), (.str (.ofString "_law_right") 1612), (.str (.ofString "/claim/cut.py") 1613), (.int (813) 0), (.int (1) 0), (.int (0) 0), (.int (0) 0), (.int (3) 0), (.ref 949), (.bool true), (.int (370) 0), (.ref 950), .none, .none, .none, (.ref 951), (.int (1614) 0), (.int (813) 0), (.str (.ofString "/claim/cut.py") 1615)]), #[]⟩
def o953 : Obj := ⟨(.type "function"), none, (.func ⟨(.ofString "_law_right"), (.ofString "_law_right"), (defArgs (top 119)), .stmts (defBody (top 119)), (defScope (top 119)), 3, [], .none, .none, .none, (.str (.ofString "law_wherebase_k11_errors_of_shapes") 1536), none, (.ref 952), .none, 0⟩), #[]⟩
def o959 : Obj := ⟨(.type "code"), none, (.fields #[(.str (.ofString "law") 1617), (.str (.ofString "law") 1618), (.str (.ofString "/claim/cut.py") 1619), (.int (835) 0), (.int (1) 0), (.int (0) 0), (.int (0) 0), (.int (3) 0), (.ref 954), (.bool true), (.int (370) 0), (.ref 955), .none, (.ref 956), (.ref 957), (.ref 958), (.int (1622) 0), (.int (835) 0), (.str (.ofString "/claim/cut.py") 1623)]), #[]⟩
def o960 : Obj := ⟨(.type "function"), none, (.func ⟨(.ofString "law"), (.ofString "law"), (defArgs (top 120)), .stmts (defBody (top 120)), (defScope (top 120)), 3, [], .none, .none, .none, (.str (.ofString "law_wherebase_k11_errors_of_shapes") 1536), none, (.ref 959), .none, 0⟩), #[]⟩
def kA (P : Params) : PySem.W.Frag := (nat_lit 2, o2 P) ::
  (nat_lit 3, o3 P) ::
  (nat_lit 50, o50) ::
  (nat_lit 57, o57) ::
  (nat_lit 58, o58 P) ::
  (nat_lit 59, o59) ::
  (nat_lit 60, o60) ::
  (nat_lit 63, o63) ::
  (nat_lit 70, o70) ::
  (nat_lit 71, o71 P) ::
  (nat_lit 72, o72) ::
  (nat_lit 75, o75) ::
  (nat_lit 82, o82) ::
  (nat_lit 83, o83 P) ::
  (nat_lit 84, o84) ::
  (nat_lit 87, o87) ::
  (nat_lit 99, o99) ::
  (nat_lit 100, o100) ::
  (nat_lit 101, o101) ::
  (nat_lit 102, o102 P) ::
  (nat_lit 103, o103) ::
  (nat_lit 104, o104) ::
  (nat_lit 187, o187) ::
  (nat_lit 188, o188) ::
  (nat_lit 192, o192) ::
  (nat_lit 193, o193) ::
  (nat_lit 197, o197) ::
  (nat_lit 198, o198) ::
  (nat_lit 202, o202) ::
  (nat_lit 203, o203) ::
  (nat_lit 207, o207) ::
  (nat_lit 208, o208) ::
  (nat_lit 214, o214) ::
  (nat_lit 215, o215) ::
  (nat_lit 235, o235) ::
  (nat_lit 236, o236) ::
  (nat_lit 242, o242) ::
  (nat_lit 243, o243) ::
  (nat_lit 249, o249) ::
  (nat_lit 250, o250) ::
  (nat_lit 254, o254) ::
  (nat_lit 255, o255) ::
  (nat_lit 256, o256) ::
  (nat_lit 257, o257 P) ::
  (nat_lit 258, o258) ::
  (nat_lit 259, o259) ::
  (nat_lit 260, o260) ::
  (nat_lit 266, o266) ::
  (nat_lit 267, o267) ::
  (nat_lit 271, o271) ::
  (nat_lit 272, o272) ::
  (nat_lit 281, o281) ::
  (nat_lit 282, o282) ::
  (nat_lit 288, o288) ::
  (nat_lit 289, o289) ::
  (nat_lit 324, o324) ::
  (nat_lit 325, o325) ::
  (nat_lit 329, o329) ::
  (nat_lit 330, o330) ::
  (nat_lit 334, o334) ::
  (nat_lit 335, o335) ::
  (nat_lit 341, o341) ::
  (nat_lit 342, o342) ::
  (nat_lit 360, o360) ::
  (nat_lit 361, o361) ::
  (nat_lit 367, o367) ::
  (nat_lit 368, o368) ::
  (nat_lit 374, o374) ::
  (nat_lit 375, o375) ::
  (nat_lit 381, o381) ::
  (nat_lit 382, o382) ::
  (nat_lit 388, o388) ::
  (nat_lit 389, o389) ::
  (nat_lit 393, o393) ::
  (nat_lit 394, o394) ::
  (nat_lit 398, o398) ::
  (nat_lit 399, o399) ::
  (nat_lit 405, o405) ::
  (nat_lit 406, o406) ::
  (nat_lit 410, o410) ::
  (nat_lit 411, o411) ::
  (nat_lit 417, o417) ::
  (nat_lit 418, o418) ::
  (nat_lit 422, o422) ::
  (nat_lit 423, o423) ::
  (nat_lit 429, o429) ::
  (nat_lit 430, o430) ::
  (nat_lit 431, o431) ::
  (nat_lit 432, o432 P) ::
  (nat_lit 433, o433) ::
  (nat_lit 434, o434) ::
  (nat_lit 435, o435) ::
  (nat_lit 441, o441) ::
  (nat_lit 442, o442) ::
  (nat_lit 448, o448) ::
  (nat_lit 449, o449) ::
  (nat_lit 453, o453) ::
  (nat_lit 454, o454) ::
  (nat_lit 460, o460) ::
  (nat_lit 461, o461) ::
  (nat_lit 538, o538) ::
  (nat_lit 539, o539) ::
  (nat_lit 543, o543) ::
  (nat_lit 544, o544) ::
  (nat_lit 550, o550) ::
  (nat_lit 551, o551) ::
  (nat_lit 555, o555) ::
  (nat_lit 556, o556) ::
  (nat_lit 562, o562) ::
  (nat_lit 563, o563) ::
  (nat_lit 567, o567) ::
  (nat_lit 568, o568) ::
  (nat_lit 572, o572) ::
  (nat_lit 573, o573) ::
  (nat_lit 579, o579) ::
  (nat_lit 580, o580) ::
  (nat_lit 584, o584) ::
  (nat_lit 585, o585) ::
  (nat_lit 589, o589) ::
  (nat_lit 590, o590) ::
  (nat_lit 651, o651) ::
  (nat_lit 652, o652) ::
  (nat_lit 656, o656) ::
  (nat_lit 657, o657) ::
  (nat_lit 663, o663) ::
  (nat_lit 664, o664) ::
  (nat_lit 665, o665) ::
  (nat_lit 671, o671) ::
  (nat_lit 672, o672) ::
  (nat_lit 673, o673) ::
  (nat_lit 679, o679) ::
  (nat_lit 680, o680) ::
  (nat_lit 681, o681) ::
  (nat_lit 687, o687) ::
  (nat_lit 688, o688) ::
  (nat_lit 689, o689) ::
  (nat_lit 695, o695) ::
  (nat_lit 696, o696) ::
  (nat_lit 697, o697) ::
  (nat_lit 703, o703) ::
  (nat_lit 704, o704) ::
  (nat_lit 705, o705) ::
  (nat_lit 711, o711) ::
  (nat_lit 712, o712) ::
  (nat_lit 718, o718) ::
  (nat_lit 719, o719) ::
  (nat_lit 725, o725) ::
  (nat_lit 726, o726) ::
  (nat_lit 732, o732) ::
  (nat_lit 733, o733) ::
  (nat_lit 739, o739) ::
  (nat_lit 740, o740) ::
  (nat_lit 741, o741) ::
  (nat_lit 742, o742 P) ::
  (nat_lit 743, o743) ::
  (nat_lit 744, o744) ::
  (nat_lit 745, o745) ::
  (nat_lit 753, o753) ::
  (nat_lit 754, o754) ::
  (nat_lit 760, o760) ::
  (nat_lit 761, o761) ::
  (nat_lit 767, o767) ::
  (nat_lit 768, o768) ::
  (nat_lit 772, o772) ::
  (nat_lit 773, o773) ::
  (nat_lit 777, o777) ::
  (nat_lit 778, o778) ::
  (nat_lit 796, o796) ::
  (nat_lit 797, o797) ::
  (nat_lit 803, o803) ::
  (nat_lit 804, o804) ::
  (nat_lit 810, o810) ::
  (nat_lit 811, o811) ::
  (nat_lit 817, o817) ::
  (nat_lit 818, o818) ::
  (nat_lit 824, o824) ::
  (nat_lit 825, o825) ::
  (nat_lit 831, o831) ::
  (nat_lit 832, o832) ::
  (nat_lit 836, o836) ::
  (nat_lit 837, o837) ::
  (nat_lit 843, o843) ::
  (nat_lit 844, o844) ::
  (nat_lit 850, o850) ::
  (nat_lit 851, o851) ::
  (nat_lit 857, o857) ::
  (nat_lit 858, o858) ::
  (nat_lit 862, o862) ::
  (nat_lit 863, o863) ::
  (nat_lit 867, o867) ::
  (nat_lit 868, o868) ::
  (nat_lit 872, o872) ::
  (nat_lit 873, o873) ::
  (nat_lit 879, o879) ::
  (nat_lit 880, o880) ::
  (nat_lit 886, o886) ::
  (nat_lit 887, o887) ::
  (nat_lit 891, o891) ::
  (nat_lit 892, o892) ::
  (nat_lit 898, o898) ::
  (nat_lit 899, o899) ::
  (nat_lit 905, o905) ::
  (nat_lit 906, o906) ::
  (nat_lit 912, o912) ::
  (nat_lit 913, o913) ::
  (nat_lit 919, o919) ::
  (nat_lit 920, o920) ::
  (nat_lit 926, o926) ::
  (nat_lit 927, o927) ::
  (nat_lit 933, o933) ::
  (nat_lit 934, o934) ::
  (nat_lit 940, o940) ::
  (nat_lit 941, o941) ::
  (nat_lit 947, o947) ::
  (nat_lit 948, o948) ::
  (nat_lit 952, o952) ::
  (nat_lit 953, o953) ::
  (nat_lit 959, o959) ::
  (nat_lit 960, o960) :: []
def asA : List Addr := ([2, 3, 50, 57, 58, 59, 60, 63, 70, 71, 72, 75, 82, 83, 84, 87, 99, 100, 101, 102, 103, 104, 187, 188, 192, 193, 197, 198, 202, 203, 207, 208, 214, 215, 235, 236, 242, 243, 249, 250, 254, 255, 256, 257, 258, 259, 260, 266, 267, 271, 272, 281, 282, 288, 289, 324, 325, 329, 330, 334] : List Addr) ++ ([335, 341, 342, 360, 361, 367, 368, 374, 375, 381, 382, 388, 389, 393, 394, 398, 399, 405, 406, 410, 411, 417, 418, 422, 423, 429, 430, 431, 432, 433, 434, 435, 441, 442, 448, 449, 453, 454, 460, 461, 538, 539, 543, 544, 550, 551, 555, 556, 562, 563, 567, 568, 572, 573, 579, 580, 584, 585, 589, 590] : List Addr) ++ ([651, 652, 656, 657, 663, 664, 665, 671, 672, 673, 679, 680, 681, 687, 688, 689, 695, 696, 697, 703, 704, 705, 711, 712, 718, 719, 725, 726, 732, 733, 739, 740, 741, 742, 743, 744, 745, 753, 754, 760, 761, 767, 768, 772, 773, 777, 778, 796, 797, 803, 804, 810, 811, 817, 818, 824, 825, 831, 832, 836] : List Addr) ++ ([837, 843, 844, 850, 851, 857, 858, 862, 863, 867, 868, 872, 873, 879, 880, 886, 887, 891, 892, 898, 899, 905, 906, 912, 913, 919, 920, 926, 927, 933, 934, 940, 941, 947, 948, 952, 953, 959, 960] : List Addr)
def tsA : List Addr := [943, 936, 929, 922, 950]
def looseA : List PySem.Str := ([.ofString "_wall", .ofString "__name__", .ofString "WhereError", .ofString "InvalidPoint", .ofString "InvalidShape", .ofString "TooMany", .ofString "lowest_point", .ofString "crossed", .ofString "line_through", .ofString "value_at", .ofString "cross_point", .ofString "sign_of", .ofString "turn", .ofString "way", .ofString "lies_between", .ofString "is_left", .ofString "shared_points", .ofString "is_integer", .ofString "fine_bits", .ofString "steps_of", .ofString "fraction_steps", .ofString "slope_ranks", .ofString "is_point", .ofString "is_side", .ofString "Groups", .ofString "form_of", .ofString "pieces_of", .ofString "_in_points", .ofString "_areas", .ofString "_owners"] : List PySem.Str) ++ ([.ofString "_ring_from", .ofString "_is_outer", .ofString "_corners_of", .ofString "_is_knot", .ofString "_straight_on", .ofString "_is_alone", .ofString "cut", .ofString "_points_on_sides", .ofString "half_below", .ofString "_is_above", .ofString "Web", .ofString "_linked", .ofString "_walked", .ofString "ring_sides", .ofString "flooded", .ofString "Sheet", .ofString "marks_of", .ofString "_knots_and_points", .ofString "holders", .ofString "_range_at", .ofString "_first_from", .ofString "is_told_corner", .ofString "are_told_corners", .ofString "is_told_ring", .ofString "is_told_area", .ofString "is_told_piece", .ofString "is_told_shape", .ofString "told_size", .ofString "told_point", .ofString "told_points"] : List PySem.Str) ++ ([.ofString "told_form", .ofString "flaws_of", .ofString "_turn_at", .ofString "_is_clockwise", .ofString "_has_meeting_sides", .ofString "_common_points", .ofString "place_among", .ofString "_place_on_lines", .ofString "_height", .ofString "MAX_TOLD", .ofString "Shape", .ofString "shape_of", .ofString "check_shapes", .ofString "check_told_size", .ofString "check_drawn", .ofString "sheet_of", .ofString "shapes_of", .ofString "closure_of", .ofString "area", .ofString "filled", .ofString "line", .ofString "dots", .ofString "empty", .ofString "place", .ofString "border", .ofString "body", .ofString "lines", .ofString "lone", .ofString "parts", .ofString "area_shapes"] : List PySem.Str) ++ ([.ofString "without_holes", .ofString "knots", .ofString "ring_flaws", .ofString "is_form", .ofString "_law_bag", .ofString "_law_draw", .ofString "_law_one_of", .ofString "_law_said", .ofString "_law_told_wrong", .ofString "_law_rows_wrong", .ofString "_law_shapes_wrong", .ofString "_law_few", .ofString "_law_right"] : List PySem.Str)
theorem as_eq (P : Params) : asA = (kA P).map (·.1) := by kernel_rfl
abbrev RWA : PySem.W.OpenRow := PySem.W.OpenLaw.row PySem.Challenge.rw_wherebase_k11_errors_of_shapes
abbrev hkA : PySem.W.Hook := PySem.W.kmHook kA asA as_eq tsA
def obA (s : PySem.W.SharedT) : List (Option Obj) × List (Option Obj) := (asA.map (HandSHeadRun.getT s), tsA.map (HandSHeadRun.getT s))
theorem ob_eq (s : PySem.W.SharedT) : obA s = hkA.obs s.abs := by
  have e : HandSHeadRun.getT s = s.abs.heap.get? := funext (HandSHeadRun.getT_eq s)
  show (asA.map (HandSHeadRun.getT s), tsA.map (HandSHeadRun.getT s)) = (asA.map s.abs.heap.get?, tsA.map s.abs.heap.get?)
  rw [e]
abbrev viewA : Program := PySem.W.view RWA.prog [0, 120]
end Q
set_option Elab.async false
set_option linter.all false
set_option maxRecDepth 100000
set_option maxHeartbeats 0
/-! the top's run: its looks, its heap -/
namespace Q
open PySem PySem.W PySem.Calls PyProof.Rows L2
noncomputable abbrev wholeA (w : World) : Option (Shared × SharedT) := HandSHeadRun.wholeF (fun p => HandSHeadRun.stepQ (HandSHeadRun.denQ HandSHeadRun.tabQ) p w) HandSHeadRun.fenceQ 6142 RWA.prog
abbrev lookA (x : Shared × SharedT) : Bool := HandSHeadRun.looksF RWA.prog x.1.heap x.2.abs
theorem map3 {α β γ δ : Type} {o : Option α} {f : α → β} {g : α → γ} {h : α → δ} {b : β} {c : γ} {d : δ} (e1 : o.map f = some b) (e2 : o.map (fun x => (g x, h x)) = some (c, d)) : o.map (fun x => (f x, g x, h x)) = some (b, c, d) := by
  cases o with
  | none => cases e1
  | some x =>
    have h1 : f x = b := Option.some.inj e1
    have h2 : (g x, h x) = (c, d) := Option.some.inj e2
    show some (f x, g x, h x) = _
    rw [h1, h2]
theorem run1 (w : World) : (wholeA w).map lookA = some true := by kernel_rfl
theorem run2 (w : World) : (wholeA w).map (fun x => (HandSHeadRun.seenQ viewA looseA (importedModules RWA.prog.main.body) (fun s => xlAt viewA [] s && recOk RWA.toRowW.records s) x.2.abs, obA x.2)) = some (openGood viewA looseA, hkA.val w) := by kernel_rfl
theorem runA (w : World) : HandSHeadRun.RunEqI RWA viewA hkA obA 6142 looseA w :=
  map3 (run1 w) (run2 w)
end Q
set_option Elab.async false
set_option linter.all false
set_option maxRecDepth 100000
set_option maxHeartbeats 4000000
namespace Q
open PySem L2 PySem.Spec PyProof.Rows PySem.Calls
section
variable {X : Cx}
def CDv (_ j : Int) : Prop := j ≠ 0 ∧ j.natAbs.log2 < 9000
theorem op_dv : OpR X (binaryOp .FloorDiv) (rI CDv fun i j => .int (i.fdiv j)) := opI fun i j _ _ _ _ _ hc q => floordiv_int hc.1 q (.inl (PyProof.noPylong_of_log2 hc.2))
end
structure Bd (k : Nat) (i : Int) : Prop where
  lt : i.natAbs < 2 ^ k
theorem Bd.le {a b : Nat} {i : Int} (x : Bd a i) (h : a ≤ b) : Bd b i := ⟨Nat.lt_of_lt_of_le x.lt (Nat.pow_le_pow_right (by decide) h)⟩
theorem Bd.neg {a : Nat} {i : Int} (x : Bd a i) : Bd a (-i) := ⟨by rw [Int.natAbs_neg]; exact x.lt⟩
theorem Bd.mul {a b : Nat} {i j : Int} (x : Bd a i) (y : Bd b j) : Bd (a + b) (i * j) := ⟨wide_lt x.lt y.lt⟩
theorem Bd.add {a : Nat} {i j : Int} (x : Bd a i) (y : Bd a j) : Bd (a + 1) (i + j) := ⟨by
  have h1 := x.lt
  have h2 := y.lt
  have h3 := Int.natAbs_add_le i j
  rw [Nat.pow_succ]
  omega⟩
theorem Bd.sub {a : Nat} {i j : Int} (x : Bd a i) (y : Bd a j) : Bd (a + 1) (i - j) := by
  rw [Int.sub_eq_add_neg]
  exact x.add y.neg
theorem Bd.pos {a : Nat} {i : Int} (x : Bd a i) : Bd (a + 1) i := x.le (Nat.le_succ a)
theorem Bd.mw {a b : Nat} {i j : Int} (x : Bd a i) (y : Bd b j) (h : a + b + 2 ≤ 1000000) : CMulW i j := wide_mul x.pos.lt y.pos.lt (Nat.succ_pos _) (Nat.succ_pos _) (by omega)
theorem Bd.log {a : Nat} {i : Int} (x : Bd a i) (h : a + 1 ≤ 9000) : i.natAbs.log2 < 9000 := Nat.lt_of_lt_of_le (PySem.Flt.log2_lt_of (Nat.succ_pos _) x.pos.lt) h
theorem Bd.of_le {a : Nat} {i j : Int} (x : Bd a j) (h : i.natAbs ≤ j.natAbs) : Bd a i := ⟨Nat.lt_of_le_of_lt h x.lt⟩
end Q
namespace Q
open PySem L2 PySem.Spec PyProof.Rows PySem.Calls
theorem no_dec {p : Prop} [Decidable p] (h : ¬ decide p = true) : ¬ p := fun hp => h (decide_eq_true hp)
structure Cl (P : Program) (w : World) (K : PySem.W.Frag) (mg : Str → Option Value) (base : Heap) (k : Nat) (x : Str) (sp : Sp) : Prop where
  ex : ∃ (f : Addr) (fd : FuncData) (ps : List Str), FnOk P w K mg base CX0 k f fd ps sp ∧ mg x = some (.ref f) ∧ PySem.W.keepIn K (.ref f) = true ∧ Binds K fd ps []
section
variable {X : Cx} {k j : Nat} {x : Str} {sp : Sp} {p pos : Pos} {e : Expr} {es : List Expr} {t : TA}
theorem pe_cl (c : Cl X.prog X.w X.K X.mg X.base k x sp) (hr : Room j X.A) (hk : k ≤ j) (hg : Gl X x) (ha : PA X (e :: es) t)
    (hdb : (x == ("__debug__" : Str)) = false := by decide) (he : starEach (e :: es) X.env = (false, eval e X.env) :: starEach es X.env := by rfl) (hpl : (backTo pos (starEach es X.env)).any (·.1) = false := by rfl) :
    PE X (.Call (.Name x p) (e :: es) [] pos) (tCall sp [] E0 t) := by
  obtain ⟨f, fd, ps, F, hm, kp, b⟩ := c.ex
  exact pe_call F (hr.mono hk) hg hm kp b .nil pass0 ha hdb he hpl
end
section
variable {K : PySem.W.Frag} {σ : L2.St} {H : Hp} {ta tb : TE} {a b : Nat} {m n : Int}
end
section
variable {K : PySem.W.Frag} {σ : L2.St} {H : Hp} {k i : Nat} {a : Addr} {p : P3}
end
section
variable {P : Program} {w : World} {K : PySem.W.Frag} {mg : Str → Option Value} {base : Heap}
end
end Q
namespace Q
open PySem L2 PySem.Spec PyProof.Rows PySem.Calls
def ValA (ta : TA) (σ : L2.St) (H : Hp) (vs : List V) : Prop := ∀ Q : List V → Hp → Prop, Q vs H → ta σ H Q
section
variable {σ : L2.St} {H : Hp} {te : TE} {t : TA} {v : V} {vs : List V} {sp : Sp} {PV : V → Hp → Prop} {E : XK} {r : List V → Hp → VK → Prop}
theorem va_nil : ValA tNil σ H [] := fun _ q => q
theorem va_cons (h : Val te σ H v) (ht : ValA t σ H vs) : ValA (tCons te t) σ H (v :: vs) := by
  intro Q q
  refine h _ ?_
  exact ht _ q
theorem vh_call (ha : ValA t σ H vs) (hs : ∀ Q : VK, (∀ v H', PV v H' → Q v H') → sp vs H Q E) : ValH (tCall sp [] E t) σ H PV := by
  intro Q q
  refine ha _ ?_
  rw [List.append_nil]
  exact hs Q q
theorem val_call (ha : ValA t σ H vs) (hs : ∀ Q : VK, Q v H → sp vs H Q E) : Val (tCall sp [] E t) σ H v := by
  intro Q q
  refine ha _ ?_
  rw [List.append_nil]
  exact hs Q q
theorem val_cb (ha : ValA t σ H vs) (hs : ∀ Q : VK, Q v H → r vs H Q) : Val (tCB r t) σ H v := by
  intro Q q
  refine ha _ ?_
  exact hs Q q
theorem vh_tup (ha : ValA t σ H vs) (hl : vs.length ≤ sizeLine) (k : ∀ p, H p = none → PV (.ref p) (upd H p (.tup vs))) : ValH (tTup t) σ H PV := by
  intro Q q
  refine ha _ ⟨hl, fun p hp => q _ _ (k p hp)⟩
theorem ret_h {D : Ends} (h : ValH te σ H PV) (q : ∀ v H', PV v H' → D.rt v H') : tRet te D σ H := h _ q
end
theorem bd_div {k : Nat} {x g : Int} (b : Bd k x) : Bd k (x / g) := b.of_le (Int.natAbs_ediv_le_natAbs x g)
section
variable {P : Program} {w : World} {K : PySem.W.Frag} {mg : Str → Option Value} {base : Heap}
end
end Q
namespace Q
open PySem L2 PySem.Spec PyProof.Rows PySem.Calls
abbrev sIsInt : Stmt := top 20
section
variable {K : PySem.W.Frag} {σ : L2.St} {H : Hp} {ta tb : TE} {i j : Nat} {D : Ends} {m n : V} {c d : Bool}
theorem st_unp2 (h : ValH ta σ H (fun v H' => ∃ l, v = .ref l ∧ Same H H' ∧ H' l = some (.tup [m, n]))) (q : ∀ H', Same H H' → D.nx ((σ.set i (some m)).set j (some n)) H') :
    tAsg ta (gTup K 2 (gCons (gName i) (gCons (gName j) gNil))) D σ H := by
  refine h _ ?_
  rintro v H' ⟨l, rfl, e, hl⟩
  exact ⟨l, _, rfl, SqT.of hl, rfl, _, _, rfl, _, _, rfl, rfl, q H' e⟩
theorem val_and (h1 : Val ta σ H (.bl c)) (h2 : c = true → Val tb σ H (.bl d)) : Val (tAndV ta tb) σ H (.bl (c && d)) := by
  intro Q q
  refine h1 _ ⟨c, rfl, ?_⟩
  cases c with
  | true => exact h2 rfl _ q
  | false => exact q
theorem val_not (h1 : Val ta σ H (.bl c)) : Val (tNotV ta) σ H (.bl (!c)) := by
  intro Q q
  exact h1 _ ⟨c, rfl, q⟩
theorem ans_i {g : Int → Int → V} {i j : Int} {b : Bool} (ha : Val ta σ H (.int i)) (hb : Val tb σ H (.int j)) (hg : g i j = .bl b) : Ans (tTest (tOp (rI0 g) ta tb)) σ H b :=
  ans_cmp ha hb fun Q q => ⟨_, _, rfl, rfl, by rw [hg]; exact q⟩
theorem val_pair (h1 : Val ta σ H m) (h2 : Val tb σ H n) : ValA (tCons ta (tCons tb tNil)) σ H [m, n] := va_cons h1 (va_cons h2 va_nil)
end
end Q
set_option Elab.async false
set_option linter.all false
set_option maxRecDepth 100000
set_option maxHeartbeats 4000000
namespace Q
open PySem L2 PySem.Spec PyProof.Rows PySem.Calls
open Evl
def EvB (p : Addr) (te : TE) (σ : L2.St) (R : Int → Prop) : Prop := ∀ (H1 : Hp), (∃ a b c : Int, H1 p = some (.lst [.int a, .int b, .int c])) → ∀ Q : VK, (∀ n H2, R n → Bgd p H1 H2 → Q (.int n) H2) → te σ H1 Q
section
variable {p : Addr} {σ : L2.St} {te ta tb tc : TE} {R S : Int → Prop} {n N : Int} {E : XK} {i : Nat} {H : Hp} {D : Ends} {u : TS}
theorem Bgd.id' {H1 : Hp} (h : ∃ a b c : Int, H1 p = some (.lst [.int a, .int b, .int c])) : Bgd p H1 H1 := ⟨h, fun _ _ _ e => e⟩
theorem eb_val (h : ∀ H, Val te σ H (.int n)) (r : R n) : EvB p te σ R := fun H1 hb Q q => h H1 _ (q n H1 r (Bgd.id' hb))
theorem eb_c (r : R n) : EvB p (tC (.int n)) σ R := eb_val (fun _ => val_c) r
theorem eb_var (h : σ[i]? = some (some (.int n))) (r : R n) : EvB p (tVar i) σ R := eb_val (fun _ => val_var h) r
theorem eb_op {g : Int → Int → Int} {T : Int → Prop} (ha : EvB p ta σ R) (hb : EvB p tb σ S) (hr : ∀ m n, R m → S n → T (g m n)) : EvB p (tOp (rI0 fun i j => .int (g i j)) ta tb) σ T := fun H1 x Q q =>
  ha H1 x _ fun m H2 r2 g2 => hb H2 g2.bag _ fun n H3 r3 g3 => ⟨m, n, rfl, rfl, q _ H3 (hr m n r2 r3) (g2.trans g3)⟩
theorem eb_mul {T : Int → Prop} (ha : EvB p ta σ R) (hb : EvB p tb σ S) (hc : ∀ m n, R m → S n → CMulW m n) (hr : ∀ m n, R m → S n → T (m * n)) : EvB p (tOp (rI CMulW fun i j => .int (i * j)) ta tb) σ T := fun H1 x Q q =>
  ha H1 x _ fun m H2 r2 g2 => hb H2 g2.bag _ fun n H3 r3 g3 => ⟨m, n, rfl, rfl, hc m n r2 r3, q _ H3 (hr m n r2 r3) (g2.trans g3)⟩
theorem eb_draw (hs : σ[i]? = some (some (.ref p))) (hn : EvB p tb σ (fun n => 0 < n ∧ n ≤ N ∧ n.natAbs.log2 < 9000)) : EvB p (tCall spDraw [] E (tCons (tVar i) (tCons tb tNil))) σ (fun r => 0 ≤ r ∧ r < N) := fun H1 x Q q =>
  ⟨_, hs, hn H1 x _ fun n H2 r2 g2 => by
    obtain ⟨a, b, c, e⟩ := g2.bag
    exact ⟨p, a, b, c, n, rfl, e, r2.1, r2.2.2, fun r H3 h0 h1 g3 => q r H3 ⟨h0, Int.lt_of_lt_of_le h1 r2.2.1⟩ (g2.trans g3)⟩⟩
theorem eb_one {ta : TA} {xs : List Int} (hs : σ[i]? = some (some (.ref p))) (ha : ∀ H1, ValA ta σ H1 (xs.map V.int)) (h0 : 0 < xs.length) (h1 : xs.length ≤ 1000) (hr : ∀ n ∈ xs, R n) : EvB p (tCall spOne [] E (tCons (tVar i) (tCons (tLst ta) tNil))) σ R := fun H1 x Q q =>
  ⟨_, hs, ha H1 _ ⟨(by rw [List.length_map]; exact Nat.le_trans h1 (by decide)), fun l hl => by
    obtain ⟨a, b, c, e⟩ := x
    have ne : l ≠ p := by
      intro z
      rw [z, e] at hl
      cases hl
    refine ⟨p, l, a, b, c, xs.map V.int, rfl, (by rw [upd_ne ne.symm]; exact e), ne, upd_same, (by rw [List.length_map]; exact h0), (by rw [List.length_map]; exact h1), fun k v H2 hv g2 => ?_⟩
    rw [List.getElem?_map] at hv
    cases hx : xs[k]? with
    | none =>
      rw [hx] at hv
      cases hv
    | some m =>
      rw [hx] at hv
      cases hv
      exact q m H2 (hr m (List.mem_of_getElem? hx)) ((Bgd.new (Bgd.id' ⟨a, b, c, e⟩) hl).trans g2)⟩⟩
theorem q_asgB (h : EvB p te σ R) (hb : ∃ a b c : Int, H p = some (.lst [.int a, .int b, .int c])) (k : ∀ n H1, R n → Bgd p H H1 → u D (σ.set i (some (.int n))) H1) : tSeq (tAsg te (gName i)) u D σ H := h H hb _ k
end
theorem ne_bag {p l : Addr} {H : Hp} (h : ∃ a b c : Int, H p = some (.lst [.int a, .int b, .int c])) (hl : H l = none) : l ≠ p := by
  obtain ⟨a, b, c, e⟩ := h
  intro z
  rw [z, e] at hl
  cases hl
theorem ne_tup {p l : Addr} {H : Hp} {xs : List V} (h : ∃ a b c : Int, H p = some (.lst [.int a, .int b, .int c])) (hl : H l = some (.tup xs)) : l ≠ p := by
  obtain ⟨a, b, c, e⟩ := h
  intro z
  rw [z, e] at hl
  cases hl
theorem tup_at {p l : Addr} {H H' : Hp} {xs : List V} (g : Bgd p H H') (hb : ∃ a b c : Int, H p = some (.lst [.int a, .int b, .int c])) (hl : H l = some (.tup xs)) : H' l = some (.tup xs) := g.keep _ _ (ne_tup hb hl) hl
theorem bag_ex {p : Addr} {H H' : Hp} (e : Ex H H') (h : ∃ a b c : Int, H p = some (.lst [.int a, .int b, .int c])) : Bgd p H H' := by
  obtain ⟨a, b, c, q⟩ := h
  exact ⟨⟨a, b, c, e _ _ q⟩, fun l o _ z => e l o z⟩
theorem val_neg {σ : L2.St} {H : Hp} {n : Int} : Val (tUn (rU fun i => .int (-i)) (tC (.int n))) σ H (.int (-n)) := fun Q q => ⟨n, rfl, q⟩
theorem bd_of {n : Int} (h : n.natAbs ≤ 10 ^ 20) : Bd 100 n := ⟨Nat.lt_of_le_of_lt h (by decide)⟩
theorem log_of {n : Int} (h : n.natAbs ≤ 10 ^ 21) : n.natAbs.log2 < 9000 := (⟨Nat.lt_of_le_of_lt h (by decide)⟩ : Bd 100 n).log (by decide)
end Q
namespace Q
open PySem L2 PySem.Spec PyProof.Rows PySem.Calls
open Evl
section
variable {K : PySem.W.Frag} {σ : L2.St} {H : Hp} {ta tb te : TE} {a b i j : Nat} {m n : Int} {E : XK}
theorem ev_ixT {p : Addr} {xs : List V} {k : Int} {v : V} (h : Ev ta σ H (.ref p)) (hx : H p = some (.tup xs)) (hk : atI xs k = some v) : Ev (tOp (rIxT K) ta (tC (.int k))) σ H v := ev_op h ev_c (rv_ixT (SqT.of hx) hk)
theorem ev_ixL {p : Addr} {xs : List V} {k : Int} {v : V} (h : Ev ta σ H (.ref p)) (hx : H p = some (.lst xs)) (hk : atI xs k = some v) : Ev (tOp (rIxL K) ta (tC (.int k))) σ H v := ev_op h ev_c (rv_ixL (SqL.of hx) hk)
end
end Q
namespace Q
open PySem L2 PySem.Spec PyProof.Rows PySem.Calls
open Evl
section
variable {K : PySem.W.Frag} {σ : L2.St} {H : Hp} {t : TT} {te ta tb : TE} {v : V}
theorem el_lcT {a : Addr} {xs : List V} {tl : TE} {j : Nat} {vs : List Nat} (f : Nat → Bool) (v : Nat → V) (h : Ev tl σ H (.ref a)) (hx : SqT K H a xs) (hz : xs.length ≤ 40000) (hw : ∀ x, wipe ((wipe σ vs).set j (some x)) vs = wipe σ vs)
    (ht : ∀ (i : Nat) (x : V) H1, Ex H H1 → xs[i]? = some x → EvT t ((wipe σ vs).set j (some x)) H1 (f i)) (he : ∀ (i : Nat) (x : V) H1, Ex H H1 → xs[i]? = some x → f i = true → Ev te ((wipe σ vs).set j (some x)) H1 (v i)) :
    EvL (tLc (iTup K tl) (gName j) t te vs) σ H (given xs.length f v) := fun H0 e Q q => h H0 e _ fun H1 e1 => ⟨a, rfl, ⟨xs, ex_t (e.trans e1) hx⟩, fun Dl hD =>
  lc_tup (xs := xs) (Cw H1 f v Dl) ⟨hD, Ex.new hD, upd_same⟩ (fun i H' _ p => ex_t ((e.trans e1).trans p.2.1) hx) (fun i x H' hi p => ⟨hw x, cw_turn p (by have := (List.getElem?_eq_some_iff.mp hi).1; omega) (ht i x H1 (e.trans e1) hi) (fun hf => he i x H1 (e.trans e1) hi hf)⟩)
    (fun H' p => q Dl H' (fresh_back e1 p.1) (e1.trans p.2.1) p.2.2)⟩
theorem el_cat {x : Addr} {xs ys : List V} (h : Ev ta σ H (.ref x)) (hx : H x = some (.lst xs)) (hb : EvL tb σ H ys) (hz : xs.length + ys.length ≤ 100000) : EvL (tOp rCat ta tb) σ H (xs ++ ys) := fun H1 e Q q =>
  h H1 e _ fun H2 e2 => hb H2 (e.trans e2) _ fun l H3 hl e3 hl3 => ⟨x, l, xs, ys, rfl, rfl, e3 _ _ (e2 _ _ (e _ _ hx)), hl3, sz_of hz, fun p hp => q p _ (fresh_back (e2.trans e3) hp) ((e2.trans e3).trans (Ex.new hp)) upd_same⟩
theorem q_par {i j : Nat} {v1 v2 : V} {D : Ends} {tz : TS} (h1 : Ev ta σ H v1) (h2 : Ev tb σ H v2) (k : ∀ H1, Ex H H1 → tz D ((σ.set i (some v1)).set j (some v2)) H1) : tSeq (tPar i j (tCons ta (tCons tb tNil))) tz D σ H :=
  h1 H (Ex.refl H) _ fun H2 e2 => h2 H2 e2 _ fun H3 e3 => ⟨_, _, rfl, k H3 (e2.trans e3)⟩
end
end Q
namespace Q
open PySem L2 PySem.Spec PyProof.Rows PySem.Calls
open Evl
section
variable {K : PySem.W.Frag} {σ : L2.St} {H : Hp} {ta tb tc te : TE} {n m l : Int} {b : Bool} {D : Ends} {u : TS} {p q : P3} {i j : Nat} {E : XK}
theorem ev_min2 (ha : Ev ta σ H (.int n)) (hb : Ev tb σ H (.int m)) : Ev (tCB (fun xs H Q => ∃ i j, xs = [.int i, .int j] ∧ Q (.int (if j < i then j else i)) H) (tCons ta (tCons tb tNil))) σ H (.int (min n m)) := fun H1 e Q q =>
  ha H1 e _ fun H2 e2 => hb H2 (e.trans e2) _ fun H3 e3 => ⟨n, m, rfl, by
    have z : (if m < n then m else n) = min n m := by split <;> omega
    rw [z]
    exact q H3 (e2.trans e3)⟩
theorem ev_max2' (ha : Ev ta σ H (.int n)) (hb : Ev tb σ H (.int m)) : Ev (tCB (fun xs H Q => ∃ i j, xs = [.int i, .int j] ∧ Q (.int (if j > i then j else i)) H) (tCons ta (tCons tb tNil))) σ H (.int (max n m)) := fun H1 e Q q =>
  ha H1 e _ fun H2 e2 => hb H2 (e.trans e2) _ fun H3 e3 => ⟨n, m, rfl, by
    have z : (if m > n then m else n) = max n m := by split <;> omega
    rw [z]
    exact q H3 (e2.trans e3)⟩
theorem q_not {t : TT} {tu : TS} (h : EvT t σ H false) (k : ∀ H1, Ex H H1 → u D σ H1) : tSeq (tIfS t tu tNext) u D σ H := q_when h (fun z => nomatch z) fun _ => k
end
end Q
namespace Q
open PySem L2
theorem pick {α : Type} : ∀ (ws : List α) (r : Nat) (y : α), ws[r]? = some y → (y :: ws.eraseIdx r).Perm ws
  | [], r, y, h => by simp at h
  | a :: l, 0, y, h => by
    have e : a = y := Option.some.inj h
    subst e
    exact List.Perm.refl _
  | a :: l, r + 1, y, h => by
    have ih := pick l r y h
    exact (List.Perm.swap a y _).trans (List.Perm.cons a ih)
theorem yes_ite {σ : L2.St} {H : Hp} {A B : Hp → Prop} (h : A H) : tYes σ H (fun b H3 => if b = true then A H3 else B H3) := by
  show (if true = true then A H else B H)
  rw [if_pos rfl]
  exact h
theorem seqAt {r : Int} {n : Nat} (h0 : 0 ≤ r) (h : r < n) : seqIndex? r n = some r.toNat := PySem.seqIndex_of h0 h
theorem Bgd.old {p l : Addr} {H H1 : Hp} {o : HO} (x : Bgd p H H1) (hl : H l = none) (n : l ≠ p) : Bgd p H (upd H1 l o) := by
  obtain ⟨a, b, c, e⟩ := x.bag
  refine ⟨⟨a, b, c, by rw [upd_ne (Ne.symm n)]; exact e⟩, fun m u nm q => ?_⟩
  rw [upd_ne (ne_of_none q hl)]
  exact x.keep m u nm q
def rLn (K : PySem.W.Frag) : List V → Hp → VK → Prop := fun xs H Q => ∃ p ys, xs = [.ref p] ∧ (SqL K H p ys ∨ SqT K H p ys) ∧ Q (.int ys.length) H
end Q
namespace Q
open PySem L2 PySem.Spec PyProof.Rows PySem.Calls
open Evl
section
variable {K : PySem.W.Frag} {σ : L2.St} {H : Hp} {te tl : TE}
theorem et_yes : EvT tYes σ H true := fun H1 _ Q q => q H1 (Ex.refl _)
theorem given_map {α : Type} (xs : List α) (g : α → V) (d : α) : given xs.length (fun _ => true) (fun i => g (xs.getD i d)) = xs.map g := by
  unfold given
  rw [List.filter_eq_self.mpr (fun _ _ => rfl)]
  refine List.ext_getElem (by simp) fun i h1 h2 => ?_
  simp at h1
  simp [h1]
end
section
variable {P : Program} {w : World} {K : PySem.W.Frag} {mg : Str → Option Value} {base : Heap}
theorem getD_at {α : Type} {l : List α} {k : Nat} {m d : α} (h : l[k]? = some m) : l.getD k d = m := by
  rw [List.getD_eq_getElem?_getD, h]
  rfl
end
end Q
namespace Q
open PySem L2 PySem.Spec PyProof.Rows PySem.Calls
open Evl
section
variable {X : Cx}
def rInDT (K : PySem.W.Frag) : R2 := fun x y H Q => ∃ d ds, Dp K H x d ∧ Dp K H y (.tuple ds) ∧ PyData.canLayAll0 ds = true ∧ d.canLay0 = true ∧ PyData.depthAll ds ≤ 5 ∧ Q (.bl (ds.any fun z => PyData.eqv z d)) H
theorem op_inDT (hu : X.A.units + 65 < cLine) : OpR X (compareOp .In) (rInDT X.K) := by
  intro pins s σ H x y v u Q I rx ry h
  obtain ⟨d, ds, hd, he, sd, se, h5, q⟩ := h
  obtain ⟨as, r1⟩ := Dp.reads I d x v hd rx
  obtain ⟨bs, r2⟩ := Dp.reads I (.tuple ds) y u he ry
  exact SeqAt.in_tuple_reads r2 r1 sd se (by omega) ⟨.bl _, H, I, rfl, q⟩
end
end Q
set_option Elab.async false
set_option linter.all false
set_option maxRecDepth 100000
set_option maxHeartbeats 4000000
/-! the greatest of a list of ints, or what is given where there is none -/
namespace Q
open PySem L2 PySem.Spec PyProof.Rows PySem.Calls
/-- the greatest of ns, or d -/
def topOr (d : Int) : List Int → Int
  | [] => d
  | n :: r => r.foldl max n
def rTopOr (K : PySem.W.Frag) : List V → List V → Hp → VK → Prop := fun vs zs H Q => ∃ (a : Addr) (ns : List Int) (d : Int), vs = [.ref a] ∧ zs = [.int d] ∧ SqL K H a (ns.map V.int) ∧ Q (.int (topOr d ns)) H
theorem deep_ints : ∀ ns : List Int, PyData.depthAll (ns.map PyData.int) ≤ 1
  | [] => by decide
  | n :: r => by
    have h := deep_ints r
    show max (PyData.depth (.int n)) (PyData.depthAll (r.map PyData.int)) ≤ 1
    exact Nat.max_le.mpr ⟨by simp [PyData.depth], h⟩
theorem alike_ints (ns : List Int) : PySem.W.AlikeAll (ns.map PyData.int) := by
  refine ⟨fun x hx y hy => ?_, fun x hx => ?_⟩
  · obtain ⟨i, _, rfl⟩ := List.mem_map.mp hx
    obtain ⟨j, _, rfl⟩ := List.mem_map.mp hy
    rfl
  · obtain ⟨i, _, rfl⟩ := List.mem_map.mp hx
    exact fun z => nomatch z
section
variable {X : Cx}
theorem cr_topOr (hc : X.calm = true) (hu : X.A.units + 8 < cLine) : CallRK X (.builtin "max") [Str.ofString "default"] (rTopOr X.K) := by
  intro pins s σ H vs zs us ws Q I r rz h
  obtain ⟨a, ns, d, rfl, rfl, hs, q⟩ := h
  obtain ⟨its, rv, hl, _⟩ := I.list hs
  obtain rfl := Vals.ref1 r
  obtain ⟨w1, rfl, t1, rfl⟩ := vals1 rz
  have hd := deep_ints ns
  refine PySem.W.max_list_default (xs := ns.map PyData.int) (I.ok.hd hc) hl.isList (ints_readAll _ rv.ints) (alike_ints ns) (by omega) (fun e h' tk hk => ?_) fun y ys i v h' tk bs e hv hr hk => ?_
  · have e : ns = [] := List.map_eq_nil_iff.mp e
    subst e
    exact ⟨.int d, H, I.kept hk, ⟨_, rfl⟩, q⟩
  · match ns, e with
    | n :: r, e =>
      obtain ⟨rfl, rfl⟩ := List.cons.inj (show PyData.int n :: r.map PyData.int = y :: ys from e)
      rw [PySem.W.maxD_ints] at hr
      cases hr with
      | int _ t => exact ⟨.int (r.foldl max n), H, I.kept hk, ⟨t, rfl⟩, q⟩
end
end Q
set_option Elab.async false
set_option linter.all false
set_option maxRecDepth 100000
set_option maxHeartbeats 4000000
/-! sorted of tuples of ints of any sign -/
namespace Lx
open PySem PyProof.Rows
def lexL : List Int → List Int → Bool
  | [], [] => false
  | [], _ :: _ => true
  | _ :: _, [] => false
  | x :: xs, y :: ys => if x = y then lexL xs ys else decide (x < y)
theorem lexL_asym : ∀ {xs ys : List Int}, lexL xs ys = true → lexL ys xs = false
  | [], [], h => by cases h
  | [], _ :: _, _ => rfl
  | _ :: _, [], h => by cases h
  | x :: xs, y :: ys, h => by
    unfold lexL at h ⊢
    by_cases e : x = y
    · rw [if_pos e] at h
      rw [if_pos e.symm]
      exact lexL_asym h
    · rw [if_neg e] at h
      rw [if_neg (fun z => e z.symm)]
      have := of_decide_eq_true h
      exact decide_eq_false (by omega)
theorem lexL_tr : ∀ {xs ys zs : List Int}, lexL ys xs = false → lexL zs ys = false → lexL zs xs = false
  | [], _, [], _, _ => rfl
  | _ :: _, [], [], h, _ => by cases h
  | _ :: _, _ :: _, [], _, h => by cases h
  | [], _, _ :: _, _, _ => rfl
  | _ :: _, [], _ :: _, h, _ => by cases h
  | x :: xs, y :: ys, z :: zs, h1, h2 => by
    unfold lexL at h1 h2 ⊢
    by_cases e : y = x
    · rw [if_pos e] at h1
      by_cases f : z = y
      · rw [if_pos f] at h2
        rw [if_pos (f.trans e)]
        exact lexL_tr h1 h2
      · rw [if_neg f] at h2
        rw [if_neg (fun g => f (g.trans e.symm))]
        have := of_decide_eq_false h2
        exact decide_eq_false (by omega)
    · rw [if_neg e] at h1
      have a := of_decide_eq_false h1
      by_cases f : z = y
      · rw [if_neg (fun g => e (f.symm.trans g))]
        exact decide_eq_false (by omega)
      · rw [if_neg f] at h2
        have b := of_decide_eq_false h2
        rw [if_neg (by omega)]
        exact decide_eq_false (by omega)
theorem swo (k : α → List Int) : SrtO.Swo fun v u => lexL (k v) (k u) := ⟨fun _ _ h => lexL_asym h, fun _ _ _ h1 h2 => lexL_tr h1 h2⟩
section
variable {prog : Program} {w : World} {A : Around} {E : Value → Shared → Prop} {s : Shared} {Q : Bool → Shared → Prop}
theorem walk_lex {b : Bool} {xs ys : List Value} {ns ms : List Int} (i : Nat) (hx : IntsAre xs ns) (hy : IntsAre ys ms) (hl : ns.length = ms.length) (h : Q (lexL ns ms) s) : PySem.W.KatLex prog w A b false Q (xs.zip ys) i s := by
  induction hx generalizing ys ms i with
  | nil =>
    cases hy with
    | nil => exact PySem.W.kat_nil h
    | cons q u hy => simp at hl
  | @cons p t xs ns hx ih =>
    cases hy with
    | nil => simp at hl
    | @cons q u ys ms hy =>
      have hl' : ns.length = ms.length := by simpa using hl
      show PySem.W.KatLex prog w A b false Q ((Value.int p t, Value.int q u) :: xs.zip ys) i s
      refine PySem.W.kat_cons (wpAny_eqBool_int ?_)
      unfold lexL at h
      by_cases e : p = q
      · rw [if_pos e] at h
        rw [show (p == q) = true from beq_iff_eq.mpr e]
        refine PySem.W.kat_yes ?_
        first
          | exact ih (i + 1) hy hl' h
          | exact ih _ _ (i + 1) hy hl' h
      · rw [if_neg e] at h
        rw [show (p == q) = false from beq_eq_false_iff_ne.mpr e]
        exact PySem.W.kat_no (TS.oneLt_ints _ h)
def Tups (h : Heap) (d : Nat) (k : Value → List Int) (vs : List Value) : Prop := ∀ v, v ∈ vs → TS.TupInts h v (k v) ∧ (k v).length = d
theorem heads {h : Heap} {d : Nat} {k : Value → List Int} (hd : 1 ≤ d) : ∀ vs : List Value, Tups h d k vs → ∃ fs, PySem.W.KatTups h vs fs ∧ fs.length = vs.length ∧ ∀ f, f ∈ fs → ∃ n t, f = Value.int n t
  | [], _ => ⟨[], PySem.W.KatTups.nil, rfl, fun f hf => by simp at hf⟩
  | v :: vs, x => by
    obtain ⟨fs, kt, hl, hi⟩ := heads hd vs fun u hu => x u (List.mem_cons_of_mem _ hu)
    obtain ⟨⟨a, xs, e, ⟨o, ho, hc, n, hdt⟩, i⟩, hn⟩ := x v (List.mem_cons_self ..)
    subst e
    have hlen := i.length
    match q : xs.toList, i with
    | [], i =>
      have l := i.length
      rw [List.length_nil, hn] at l
      omega
    | y :: ys, i =>
      obtain ⟨m, t, hy⟩ := i.all y (List.mem_cons_self ..)
      have hk0 : xs[0]? = some y := by
        have z := congrArg (fun l : List Value => l[0]?) q
        simpa using z
      refine ⟨y :: fs, PySem.W.KatTups.cons ho hc hdt hk0 kt, by simp [hl], fun f hf => ?_⟩
      rcases List.mem_cons.mp hf with rfl | hf
      · exact ⟨m, t, hy⟩
      · exact hi f hf
theorem sortable {a : Addr} {vs : List Value} {d : Nat} {k : Value → List Int} (hd : 1 ≤ d) (h0 : 0 < vs.length) (hp : Tups s.heap d k vs) (ha : ∀ o, s.heap.get? a = some o → o.cls ≠ .type "tuple") : SrtO.SortableO prog w A s a vs fun v u => lexL (k v) (k u) := by
  intro h' keep
  have hp' : Tups h' d k vs := fun v hm => ⟨(hp v hm).1.keeps fun b o e c => keep b o (fun z => by subst z; exact ha o e c) e, (hp v hm).2⟩
  obtain ⟨fs, h1, h2, h3⟩ := heads hd vs hp'
  refine ⟨tuples' true, fun Q E hq => ?_, ?_⟩
  · refine PySem.W.kat_kind (T := .type "int") h1 (by omega) (fun f hm => ?_) (by rfl) ?_
    · obtain ⟨x, t, rfl⟩ := h3 f hm
      exact PySem.W.Looks.now
    · have e : (Value.type "int" != Value.type "tuple") = true := by first | decide +kernel | rfl | decide
      rw [e]
      exact hq
  · intro p q hm hm'
    obtain ⟨⟨a1, xs, e1, ⟨o1, ho1, hc1, n1, hd1⟩, i1⟩, l1⟩ := hp' _ hm
    obtain ⟨⟨a2, ys, e2, ⟨o2, ho2, hc2, n2, hd2⟩, i2⟩, l2⟩ := hp' _ hm'
    show wpAny (model prog w) A (keyLt' (tuples' true) p.1 q.1) (fun r s' => s' = _ ∧ r = lexL (k p.1) (k q.1)) (fun _ _ => False) _
    generalize k p.1 = ns at i1 l1 ⊢
    generalize k q.1 = ms at i2 l2 ⊢
    rw [e1, e2]
    refine PySem.W.kat_lt ho1 hd1 ho2 hd2 ?_
    have sz : decide (xs.size < ys.size) = false := by
      have j1 := i1.length
      have j2 := i2.length
      rw [Array.length_toList] at j1 j2
      exact decide_eq_false (by omega)
    rw [sz]
    exact walk_lex 0 i1 i2 (by omega) ⟨rfl, rfl⟩
end
end Lx
namespace L2
open PySem PySem.Spec PyProof.Rows
/-- sorted(xs), xs a list of tuples of d ints -/
def rSortLex (K : PySem.W.Frag) : List V → Hp → VK → Prop := fun vs H Q => ∃ (a : Addr) (xs : List V) (k : V → List Int) (d : Nat), vs = [V.ref a] ∧ SqL K H a xs ∧ 1 ≤ d ∧ (∀ x ∈ xs, TupI K H x (k x) ∧ (k x).length = d) ∧
  ∀ ys p, ys.Perm xs → ys.Pairwise (fun x y => Lx.lexL (k y) (k x) = false) → H p = none → Q (.ref p) (upd H p (.lst ys))
section
variable {X : Cx}
theorem cr_sortLex : CallR X (.builtin "sorted") (rSortLex X.K) := by
  intro pins s σ H vs us Q I r h
  obtain ⟨a, xs, k, d, rfl, hs, hd, hx, q⟩ := h
  obtain ⟨its, rv, hl, hz⟩ := I.list hs
  rw [Vals.ref1 r]
  obtain ⟨e1, e2⟩ := bkV_refs rv fun x m => by
    obtain ⟨⟨t, e, _⟩, _⟩ := hx x m
    exact ⟨t, e⟩
  have hT : Lx.Tups s.heap d (fun u => k (bkV u)) its := fun v hv => by
    obtain ⟨t, rfl⟩ := e2 v hv
    have hm : V.ref t ∈ xs := by
      rw [e1]
      exact List.mem_map.mpr ⟨_, hv, rfl⟩
    obtain ⟨⟨t', e, ht⟩, hn⟩ := hx _ hm
    cases e
    exact ⟨tupI_raw I ht, hn⟩
  refine SrtO.sorted_ord (Lx.swo fun u => k (bkV u)) hl.isList (by rw [← rv.length]; exact hz) (fun h2 h₁ b hb kk => ?_) fun out h1 h2 => ?_
  · refine Lx.sortable (s := { s with heap := h₁ }) hd (by omega) (fun v hm => ⟨(hT v hm).1.keeps fun b o e _ => (kk b o e).2, (hT v hm).2⟩) fun o e => ?_
    have e' : some o = some (seqObj "list" its.toArray 0) := e.symm.trans hb
    cases e'
    intro c
    exact absurd (Value.type.inj c) (by decide)
  · obtain ⟨ep, he'⟩ := PyProof.Rows.sortedAll_at s.heap its out.toArray
    have h3 : ∀ u ∈ out, ∃ a, u = Value.ref a := fun u hu => e2 u (h2.perm.mem_iff.mp hu)
    have hp : (out.map bkV).Perm xs := by
      rw [e1]
      exact h2.perm.map bkV
    have hlen : (out.map bkV).length ≤ sizeLine := by
      rw [hp.length_eq]
      exact hz
    refine ⟨.ref _, upd H (s.heap.objs.size + 1) (.lst (out.map bkV)), I.laid (t' := s.toks) (fun _ _ => PyProof.Rows.sortedAll_old) (Nat.le_succ _) ⟨hlen, out, ep, bkV_vals h3, he'⟩, rfl, q _ _ hp ?_ (I.hok.fresh (Nat.le_succ _))⟩
    rw [List.pairwise_map]
    exact h1
end
end L2
set_option Elab.async false
set_option linter.all false
set_option maxRecDepth 100000
set_option maxHeartbeats 2000000
/-! what tuples tell: ints, texts and tuples of them -/
namespace Q
open PySem L2 PySem.Spec PyProof.Rows PySem.Calls
open Evl
inductive TDs (H : Hp) : List V → List PyData → Prop where
  | nil : TDs H [] []
  | int (i : Int) {xs : List V} {ds : List PyData} (t : TDs H xs ds) : TDs H (.int i :: xs) (.int i :: ds)
  | str (s : Str) {xs : List V} {ds : List PyData} (t : TDs H xs ds) : TDs H (.str s :: xs) (.str s :: ds)
  | bl (b : Bool) {xs : List V} {ds : List PyData} (t : TDs H xs ds) : TDs H (.bl b :: xs) (.bool b :: ds)
  | non {xs : List V} {ds : List PyData} (t : TDs H xs ds) : TDs H (.non :: xs) (.none :: ds)
  | tup {a : Addr} {ys : List V} {es : List PyData} {xs : List V} {ds : List PyData} (h : H a = some (.tup ys)) (m : TDs H ys es) (t : TDs H xs ds) : TDs H (.ref a :: xs) (.tuple es :: ds)
def TD1 (H : Hp) (v : V) (d : PyData) : Prop := TDs H [v] [d]
theorem TDs.by {H H' : Hp} {xs : List V} {ds : List PyData} (h : TDs H xs ds) (k : ∀ a ys, H a = some (.tup ys) → H' a = some (.tup ys)) : TDs H' xs ds := by
  induction h with
  | nil => exact .nil
  | int i _ ih => exact .int i ih
  | str s _ ih => exact .str s ih
  | bl b _ ih => exact .bl b ih
  | non _ ih => exact .non ih
  | tup h _ _ im ih => exact .tup (k _ _ h) im ih
theorem TDs.mono {H H' : Hp} (e : Ex H H') {xs : List V} {ds : List PyData} (h : TDs H xs ds) : TDs H' xs ds := h.by fun _ _ q => e _ _ q
theorem TDs.len {H : Hp} {xs : List V} {ds : List PyData} (h : TDs H xs ds) : xs.length = ds.length := by
  induction h with
  | nil => rfl
  | int i _ ih => rw [List.length_cons, List.length_cons, ih]
  | str s _ ih => rw [List.length_cons, List.length_cons, ih]
  | bl b _ ih => rw [List.length_cons, List.length_cons, ih]
  | non _ ih => rw [List.length_cons, List.length_cons, ih]
  | tup h _ _ _ ih => rw [List.length_cons, List.length_cons, ih]
theorem TDs.cons {H : Hp} {v : V} {d : PyData} {xs : List V} {ds : List PyData} (h : TD1 H v d) (t : TDs H xs ds) : TDs H (v :: xs) (d :: ds) := by
  cases h with
  | int i _ => exact .int i t
  | str s _ => exact .str s t
  | bl b _ => exact .bl b t
  | non _ => exact .non t
  | tup h m _ => exact .tup h m t
theorem TDs.inv {H : Hp} {xs : List V} {d : PyData} {ds : List PyData} (h : TDs H xs (d :: ds)) : ∃ v ys, xs = v :: ys ∧ TD1 H v d ∧ TDs H ys ds := by
  cases h with
  | int i t => exact ⟨_, _, rfl, .int i .nil, t⟩
  | str s t => exact ⟨_, _, rfl, .str s .nil, t⟩
  | bl b t => exact ⟨_, _, rfl, .bl b .nil, t⟩
  | non t => exact ⟨_, _, rfl, .non .nil, t⟩
  | tup h m t => exact ⟨_, _, rfl, .tup h m .nil, t⟩
theorem TDs.inv0 {H : Hp} {xs : List V} (h : TDs H xs []) : xs = [] := by
  cases h with
  | nil => rfl
theorem TDs.app {H : Hp} {xs ys : List V} {ds es : List PyData} (h : TDs H xs ds) (k : TDs H ys es) : TDs H (xs ++ ys) (ds ++ es) := by
  induction h with
  | nil => exact k
  | int i _ ih => exact .int i ih
  | str s _ ih => exact .str s ih
  | bl b _ ih => exact .bl b ih
  | non _ ih => exact .non ih
  | tup h m _ _ ih => exact .tup h m ih
theorem TDs.at {H : Hp} : ∀ {ds : List PyData} {xs : List V} {i : Nat} {d : PyData}, TDs H xs ds → ds[i]? = some d → ∃ v, xs[i]? = some v ∧ TD1 H v d
  | [], _, i, d, _, h => by simp at h
  | e :: ds, xs, i, d, t, h => by
    obtain ⟨v, ys, rfl, hv, ht⟩ := t.inv
    match i, h with
    | 0, h =>
      cases h
      exact ⟨v, rfl, hv⟩
    | i + 1, h => exact TDs.at (i := i) ht (by simpa using h)
theorem TDs.to {H : Hp} {ds : List PyData} {xs : List V} {i : Nat} {v : V} (t : TDs H xs ds) (h : xs[i]? = some v) : ∃ d, ds[i]? = some d ∧ TD1 H v d := by
  have hl := t.len
  have hi := (List.getElem?_eq_some_iff.mp h).1
  have e : ds[i]? = some (ds[i]'(by omega)) := List.getElem?_eq_getElem (by omega)
  obtain ⟨u, hu, x⟩ := t.at e
  rw [h] at hu
  cases hu
  exact ⟨_, e, x⟩
theorem TDs.take {H : Hp} : ∀ {ds : List PyData} {xs : List V} (n : Nat), TDs H xs ds → TDs H (xs.take n) (ds.take n)
  | [], xs, n, h => by
    rw [h.inv0, List.take_nil, List.take_nil]
    exact .nil
  | d :: ds, xs, 0, h => .nil
  | d :: ds, xs, n + 1, h => by
    obtain ⟨v, ys, rfl, hv, ht⟩ := h.inv
    exact TDs.cons hv (TDs.take n ht)
theorem TDs.drop {H : Hp} : ∀ {ds : List PyData} {xs : List V} (n : Nat), TDs H xs ds → TDs H (xs.drop n) (ds.drop n)
  | [], xs, n, h => by
    rw [h.inv0, List.drop_nil, List.drop_nil]
    exact .nil
  | d :: ds, xs, 0, h => h
  | d :: ds, xs, n + 1, h => by
    obtain ⟨v, ys, rfl, hv, ht⟩ := h.inv
    exact TDs.drop n ht
theorem TDs.ints {H : Hp} : ∀ ns : List Int, TDs H (ns.map V.int) (ns.map PyData.int)
  | [] => .nil
  | n :: ns => .int n (TDs.ints ns)
theorem TDs.ints_inv {H : Hp} : ∀ {ns : List Int} {xs : List V}, TDs H xs (ns.map PyData.int) → xs = ns.map V.int
  | [], xs, h => h.inv0
  | n :: ns, xs, h => by
    obtain ⟨v, ys, rfl, hv, ht⟩ := h.inv
    cases hv
    rw [TDs.ints_inv ht]
    rfl
theorem TDs.bls_inv {H : Hp} : ∀ {bs : List Bool} {xs : List V}, TDs H xs (bs.map PyData.bool) → xs = bs.map V.bl
  | [], xs, h => h.inv0
  | b :: bs, xs, h => by
    obtain ⟨v, ys, rfl, hv, ht⟩ := h.inv
    cases hv
    rw [TDs.bls_inv ht]
    rfl
theorem TD1.tup {H : Hp} {v : V} {ds : List PyData} (h : TD1 H v (.tuple ds)) : ∃ a xs, v = .ref a ∧ H a = some (.tup xs) ∧ TDs H xs ds := by
  cases h with
  | tup h m _ => exact ⟨_, _, rfl, h, m⟩
theorem TD1.mk {H : Hp} {a : Addr} {xs : List V} {ds : List PyData} (h : H a = some (.tup xs)) (t : TDs H xs ds) : TD1 H (.ref a) (.tuple ds) := TDs.tup h t .nil
theorem TD1.int {H : Hp} {v : V} {n : Int} (h : TD1 H v (.int n)) : v = .int n := by
  cases h with
  | int i _ => rfl
theorem TD1.str {H : Hp} {v : V} {s : Str} (h : TD1 H v (.str s)) : v = .str s := by
  cases h with
  | str s _ => rfl
theorem TD1.mono {H H' : Hp} (e : Ex H H') {v : V} {d : PyData} (h : TD1 H v d) : TD1 H' v d := TDs.mono e h
theorem TD1.by {H H' : Hp} {v : V} {d : PyData} (h : TD1 H v d) (k : ∀ a ys, H a = some (.tup ys) → H' a = some (.tup ys)) : TD1 H' v d := TDs.by h k
theorem TDs.dp {K : PySem.W.Frag} {H : Hp} {xs : List V} {ds : List PyData} (h : TDs H xs ds) : DpAll K H xs ds := by
  induction h with
  | nil => exact .nil
  | int i _ ih => exact .cons (.int i) ih
  | str s _ ih => exact .cons (.str s) ih
  | bl b _ ih => exact .cons (.bl b) ih
  | non _ ih => exact .cons .non ih
  | tup h _ _ im ih => exact .cons (.tup (SqT.of h) im) ih
theorem TD1.dp {K : PySem.W.Frag} {H : Hp} {v : V} {d : PyData} (h : TD1 H v d) : Dp K H v d := by
  have z := TDs.dp (K := K) h
  cases z with
  | cons z _ => exact z
/-! what evaluates to something that tells so -/
def EvD (te : TE) (σ : L2.St) (H : Hp) (d : PyData) : Prop := ∀ H1, Ex H H1 → ∀ Q : VK, (∀ v H2, Ex H1 H2 → TD1 H2 v d → Q v H2) → te σ H1 Q
/-- a new list of such -/
def EvDs (te : TE) (σ : L2.St) (H : Hp) (ds : List PyData) : Prop := ∀ H1, Ex H H1 → ∀ Q : VK, (∀ p xs H2, H1 p = none → Ex H1 H2 → H2 p = some (.lst xs) → TDs H2 xs ds → Q (.ref p) H2) → te σ H1 Q
/-- arguments -/
def EvDa (ta : TA) (σ : L2.St) (H : Hp) (ds : List PyData) : Prop := ∀ H1, Ex H H1 → ∀ Q : List V → Hp → Prop, (∀ vs H2, Ex H1 H2 → TDs H2 vs ds → Q vs H2) → ta σ H1 Q
section
variable {K : PySem.W.Frag} {σ : L2.St} {H H' : Hp} {ta : TA} {te tl tb : TE} {d : PyData} {ds es : List PyData} {i : Nat} {v : V} {n : Int} {D : Ends} {tz : TS} {E : XK}
theorem EvD.mono (e : Ex H H') (h : EvD te σ H d) : EvD te σ H' d := fun H1 a Q q => h H1 (e.trans a) Q q
theorem EvDs.mono (e : Ex H H') (h : EvDs te σ H ds) : EvDs te σ H' ds := fun H1 a Q q => h H1 (e.trans a) Q q
theorem ed_var (h : σ[i]? = some (some v)) (x : TD1 H v d) : EvD (tVar i) σ H d := fun H1 e Q q => ⟨v, h, q v H1 (Ex.refl _) (x.mono e)⟩
theorem ed_of (h : Ev te σ H v) (x : TD1 H v d) : EvD te σ H d := fun H1 e Q q => h H1 e _ fun H2 e2 => q v H2 e2 (x.mono (e.trans e2))
theorem ed_ix {k : Int} (h : EvD te σ H (.tuple ds)) (hk : 0 ≤ k ∧ ds[k.toNat]? = some d) : EvD (tOp (rIxT K) te (tC (.int k))) σ H d := fun H1 e Q q =>
  h H1 e _ fun v H2 e2 x => by
    obtain ⟨a, xs, rfl, ha, t⟩ := x.tup
    obtain ⟨u, hu, y⟩ := t.at hk.2
    have e3 : k = ((k.toNat : Nat) : Int) := by omega
    have z : atI xs ((k.toNat : Nat) : Int) = some u := atI_nat hu
    rw [← e3] at z
    exact ⟨a, xs, k, u, rfl, rfl, SqT.of ha, z, q u H2 e2 y⟩
theorem ev_ofD (h : EvD te σ H (.int n)) : Ev te σ H (.int n) := fun H1 e Q q => h H1 e _ fun v H2 e2 x => by
  rw [x.int]
  exact q H2 e2
theorem ev_ofS {s : Str} (h : EvD te σ H (.str s)) : Ev te σ H (.str s) := fun H1 e Q q => h H1 e _ fun v H2 e2 x => by
  rw [x.str]
  exact q H2 e2
theorem ed_int (h : Ev te σ H (.int n)) : EvD te σ H (.int n) := ed_of h (TDs.int n .nil)
theorem ed_str {s : Str} (h : Ev te σ H (.str s)) : EvD te σ H (.str s) := ed_of h (TDs.str s .nil)
theorem da_nil : EvDa tNil σ H [] := fun H1 _ Q q => q [] H1 (Ex.refl _) .nil
theorem da_cons (h : EvD te σ H d) (t : EvDa ta σ H ds) : EvDa (tCons te ta) σ H (d :: ds) := fun H1 e Q q =>
  h H1 e _ fun v H2 e2 x => t H2 (e.trans e2) _ fun vs H3 e3 y => q (v :: vs) H3 (e2.trans e3) (TDs.cons (x.mono e3) y)
theorem ed_tup (h : EvDa ta σ H ds) (hl : ds.length ≤ 100000) : EvD (tTup ta) σ H (.tuple ds) := fun H1 e Q q =>
  h H1 e _ fun vs H2 e2 x => ⟨sz_of (by rw [x.len]; exact hl), fun p hp => q (.ref p) _ (e2.trans (Ex.new hp)) (TD1.mk upd_same (x.mono (Ex.new hp)))⟩
theorem eds_lst (h : EvDa ta σ H ds) (hl : ds.length ≤ 100000) : EvDs (tLst ta) σ H ds := fun H1 e Q q =>
  h H1 e _ fun vs H2 e2 x => ⟨sz_of (by rw [x.len]; exact hl), fun p hp => q p vs _ (fresh_back e2 hp) (e2.trans (Ex.new hp)) upd_same (x.mono (Ex.new hp))⟩
theorem q_asgD (h : EvD te σ H d) (k : ∀ v H1, Ex H H1 → TD1 H1 v d → tz D (σ.set i (some v)) H1) : tSeq (tAsg te (gName i)) tz D σ H := h H (Ex.refl H) _ fun v H1 e x => k v H1 e x
theorem q_asgDs (h : EvDs te σ H ds) (k : ∀ l xs H1, Ex H H1 → H l = none → H1 l = some (.lst xs) → TDs H1 xs ds → tz D (σ.set i (some (.ref l))) H1) : tSeq (tAsg te (gName i)) tz D σ H := h H (Ex.refl H) _ fun l xs H1 n e hl x => k l xs H1 e n hl x
theorem s_retD (h : EvD te σ H d) (k : ∀ v H1, Ex H H1 → TD1 H1 v d → D.rt v H1) : tRet te D σ H := h H (Ex.refl H) _ k
theorem s_retDs (h : EvDs te σ H ds) (k : ∀ l xs H1, H l = none → Ex H H1 → H1 l = some (.lst xs) → TDs H1 xs ds → D.rt (.ref l) H1) : tRet te D σ H := h H (Ex.refl H) _ k
/-- tuple(list) -/
theorem ed_tupL (h : EvDs te σ H ds) : EvD (tCB (fun xs H Q => ∃ p ys, xs = [.ref p] ∧ ((SqL K H p ys ∧ ∀ l, H l = none → Q (.ref l) (upd H l (.tup ys))) ∨ (SqT K H p ys ∧ Q (.ref p) H))) (tCons te tNil)) σ H (.tuple ds) := fun H0 e0 Q q =>
  h H0 e0 _ fun p xs H1 hn e hp x => ⟨p, xs, rfl, .inl ⟨SqL.of hp, fun l hl => q (.ref l) _ (e.trans (Ex.new hl)) (TD1.mk upd_same (x.mono (Ex.new hl)))⟩⟩
theorem ed_tupV {L : Addr} {xs : List V} (h : Ev te σ H (.ref L)) (hL : H L = some (.lst xs)) (x : TDs H xs ds) : EvD (tCB (fun xs H Q => ∃ p ys, xs = [.ref p] ∧ ((SqL K H p ys ∧ ∀ l, H l = none → Q (.ref l) (upd H l (.tup ys))) ∨ (SqT K H p ys ∧ Q (.ref p) H))) (tCons te tNil)) σ H (.tuple ds) := fun H0 e0 Q q =>
  h H0 e0 _ fun H1 e => ⟨L, xs, rfl, .inl ⟨SqL.of ((e0.trans e) _ _ hL), fun l hl => q (.ref l) _ (e.trans (Ex.new hl)) (TD1.mk upd_same (x.mono ((e0.trans e).trans (Ex.new hl))))⟩⟩
end
/-- a def called once, a new or old value told by it -/
theorem ed_call {sp : Sp} {E : XK} {ta : TA} {σ : L2.St} {H : Hp} {ds : List PyData} {d : PyData} (h : EvDa ta σ H ds) (hs : ∀ vs H1, Ex H H1 → TDs H1 vs ds → ∀ Q : VK, (∀ v H2, Ex H1 H2 → TD1 H2 v d → Q v H2) → sp vs H1 Q E) : EvD (tCall sp [] E ta) σ H d := fun H1 e Q q =>
  h H1 e _ fun vs H2 e2 x => by
    have z := hs vs H2 (e.trans e2) x Q fun v H3 e3 y => q v H3 (e2.trans e3) y
    show sp (vs ++ []) H2 Q E
    rw [List.append_nil]
    exact z
theorem ev_callD {sp : Sp} {E : XK} {ta : TA} {σ : L2.St} {H : Hp} {ds : List PyData} {z : V} (h : EvDa ta σ H ds) (hs : ∀ vs H1, Ex H H1 → TDs H1 vs ds → ∀ Q : VK, (∀ H2, Ex H1 H2 → Q z H2) → sp vs H1 Q E) : Ev (tCall sp [] E ta) σ H z := fun H1 e Q q =>
  h H1 e _ fun vs H2 e2 x => by
    have z := hs vs H2 (e.trans e2) x Q fun H3 e3 => q H3 (e2.trans e3)
    show sp (vs ++ []) H2 Q E
    rw [List.append_nil]
    exact z
end Q
set_option Elab.async false
set_option linter.all false
set_option maxRecDepth 100000
set_option maxHeartbeats 2000000
/-! comprehensions over what is told -/
namespace Q
open PySem L2 PySem.Spec PyProof.Rows PySem.Calls
open Evl
/-- some list that tells so -/
def EvLd (te : TE) (σ : L2.St) (H : Hp) (ds : List PyData) : Prop := ∀ H1, Ex H H1 → ∀ Q : VK, (∀ p xs H2, Ex H1 H2 → H2 p = some (.lst xs) → TDs H2 xs ds → Q (.ref p) H2) → te σ H1 Q
section
variable {K : PySem.W.Frag} {σ : L2.St} {H H' : Hp} {ta : TA} {te tl tb : TE} {d : PyData} {ds es : List PyData} {i : Nat} {v : V} {n : Int} {D : Ends} {tz : TS} {E : XK} {xs : List V} {a : Addr}
theorem ld_new (h : EvDs te σ H ds) : EvLd te σ H ds := fun H1 e Q q => h H1 e _ fun p xs H2 _ e2 hp x => q p xs H2 e2 hp x
theorem ld_of (h : Ev te σ H (.ref a)) (ha : H a = some (.lst xs)) (x : TDs H xs ds) : EvLd te σ H ds := fun H1 e Q q => h H1 e _ fun H2 e2 => q a xs H2 e2 ((e.trans e2) _ _ ha) (x.mono (e.trans e2))
theorem EvLd.mono (e : Ex H H') (h : EvLd te σ H ds) : EvLd te σ H' ds := fun H1 a Q q => h H1 (e.trans a) Q q
theorem ev_all {bs : List Bool} (h : EvDs te σ H (bs.map PyData.bool)) : Ev (tCB (rAll K) (tCons te tNil)) σ H (.bl (bs.all id)) := fun H1 e Q q =>
  h H1 e _ fun p xs H2 _ e2 hp x => by
    rw [x.bls_inv] at hp
    exact ⟨p, bs, rfl, SqL.of hp, q H2 e2⟩
theorem ev_lenL (h : EvLd te σ H ds) : Ev (tCB (rLn K) (tCons te tNil)) σ H (.int ds.length) := fun H1 e Q q =>
  h H1 e _ fun p xs H2 e2 hp x => ⟨p, xs, rfl, .inl (SqL.of hp), by
    rw [x.len]
    exact q H2 e2⟩
theorem ev_lenT (h : EvD te σ H (.tuple ds)) : Ev (tCB (rLn K) (tCons te tNil)) σ H (.int ds.length) := fun H1 e Q q =>
  h H1 e _ fun v H2 e2 x => by
    obtain ⟨p, xs, rfl, hp, y⟩ := x.tup
    exact ⟨p, xs, rfl, .inr (SqT.of hp), by
      rw [y.len]
      exact q H2 e2⟩
end
section
variable {α : Type} {enc : α → PyData} {es : List α} {p : α → Bool} {F : α → PyData}
/-- the comprehension's list as it grows -/
def Cd (H : Hp) (p : α → Bool) (F : α → PyData) (es : List α) (Dl : Addr) (i : Nat) (H' : Hp) : Prop := H Dl = none ∧ Ex H H' ∧ ∃ acc : List V, H' Dl = some (.lst acc) ∧ TDs H' acc (((es.take i).filter p).map F)
theorem take_snoc {i : Nat} {e : α} (h : es[i]? = some e) : es.take (i + 1) = es.take i ++ [e] := by
  rw [List.take_add_one, h]
  rfl
theorem upd_tup {H : Hp} {Dl : Addr} {xs ys : List V} (h : H Dl = some (.lst xs)) : ∀ a zs, H a = some (.tup zs) → upd H Dl (.lst ys) a = some (.tup zs) := fun a zs ha => by
  have na : a ≠ Dl := by
    intro z
    rw [z, h] at ha
    cases ha
  rw [upd_ne na]
  exact ha
variable {K : PySem.W.Frag} {σ : L2.St} {H : Hp} {te tl : TE} {tt : TT} {g : TG} {vs : List Nat}
theorem cd_turn {H1 H' H3 : Hp} {Dl : Addr} {i : Nat} {e : α} {σ2 : L2.St} (c : Cd H1 p F es Dl i H') (hi : es[i]? = some e) (hz : es.length ≤ 40000) (e3 : Ex H' H3) (ht : EvT tt σ2 H3 (p e)) (he : p e = true → EvD te σ2 H3 (F e)) :
    tt σ2 H3 fun b H4 => if b = true then te σ2 H4 fun y H5 => ∃ acc, H5 Dl = some (.lst acc) ∧ acc.length < sizeLine ∧ Cd H1 p F es Dl (i + 1) (upd H5 Dl (.lst (acc ++ [y]))) else Cd H1 p F es Dl (i + 1) H4 := by
  obtain ⟨c1, c2, acc, c3, c4⟩ := c
  have hlt := (List.getElem?_eq_some_iff.mp hi).1
  refine ht H3 (Ex.refl _) _ fun H4 e4 => ?_
  have e34 := e3.trans e4
  cases hp : p e with
  | true =>
    show te σ2 H4 fun y H5 => ∃ acc, H5 Dl = some (.lst acc) ∧ acc.length < sizeLine ∧ Cd H1 p F es Dl (i + 1) (upd H5 Dl (.lst (acc ++ [y])))
    refine he hp H4 e4 _ fun y H5 e5 x => ⟨acc, (e34.trans e5) _ _ c3, sz_lt ?_, c1, Ex.mut (c2.trans (e34.trans e5)) c1, acc ++ [y], upd_same, ?_⟩
    · rw [c4.len, List.length_map]
      have := List.length_filter_le p (es.take i)
      rw [List.length_take] at this
      omega
    · rw [take_snoc hi, List.filter_append, List.map_append]
      have hf : [e].filter p = [e] := by rw [List.filter_cons, if_pos hp]; rfl
      rw [hf]
      exact ((c4.mono (e34.trans e5)).app x).by (upd_tup ((e34.trans e5) _ _ c3))
  | false =>
    show Cd H1 p F es Dl (i + 1) H4
    refine ⟨c1, c2.trans e34, acc, e34 _ _ c3, ?_⟩
    rw [take_snoc hi, List.filter_append, List.map_append]
    have hf : [e].filter p = [] := by rw [List.filter_cons, if_neg (by rw [hp]; decide)]; rfl
    rw [hf, List.map_nil, List.append_nil]
    exact c4.mono e34
/-- what one turn asks: the item told, any heap further on -/
def Turn1 (g : TG) (tt : TT) (te : TE) (vs : List Nat) (σ : L2.St) (H : Hp) (enc : α → PyData) (p : α → Bool) (F : α → PyData) (e : α) : Prop := ∀ v H1, Ex H H1 → TD1 H1 v (enc e) → ∀ kk : L2.St → Hp → Prop,
  (∀ σ2 H2, Ex H1 H2 → wipe σ2 vs = wipe σ vs → EvT tt σ2 H2 (p e) → (p e = true → EvD te σ2 H2 (F e)) → kk σ2 H2) → g v (wipe σ vs) H1 kk
theorem Turn1.mono {H' : Hp} {e : α} (x : Ex H H') (t : Turn1 g tt te vs σ H enc p F e) : Turn1 g tt te vs σ H' enc p F e := fun v H1 e1 => t v H1 (x.trans e1)
theorem eds_lc (p : α → Bool) (F : α → PyData) (h : EvLd tl σ H (es.map enc)) (hz : es.length ≤ 40000) (hs : ∀ e ∈ es, Turn1 g tt te vs σ H enc p F e) : EvDs (tLc (iList K tl) g tt te vs) σ H ((es.filter p).map F) := fun H0 e0 Q q =>
  h H0 e0 _ fun a xs H1 e1 ha x => ⟨a, rfl, ⟨xs, SqL.of ha⟩, fun Dl hD =>
    lc_list (xs := xs) (Cd H1 p F es Dl) ⟨hD, Ex.new hD, [], upd_same, by rw [List.take_zero]; exact .nil⟩ (fun i H' _ c => SqL.of (c.2.1 _ _ ha)) (fun i v H' hv c => by
      obtain ⟨d, hd, y⟩ := x.to hv
      rw [List.getElem?_map] at hd
      obtain ⟨e, he, rfl⟩ := Option.map_eq_some_iff.mp hd
      exact hs e (List.mem_of_getElem? he) v H' ((e0.trans e1).trans c.2.1) (y.mono c.2.1) _ fun σ2 H3 e3 hw ht hte => ⟨hw, cd_turn c he hz e3 ht hte⟩)
      (fun H' c => by
        obtain ⟨c1, c2, acc, c3, c4⟩ := c
        have hl := x.len
        rw [List.length_map] at hl
        rw [hl, List.take_length] at c4
        exact q Dl acc H' (fresh_back e1 c1) (e1.trans c2) c3 c4)⟩
theorem eds_lcT (p : α → Bool) (F : α → PyData) (h : EvD tl σ H (.tuple (es.map enc))) (hz : es.length ≤ 40000) (hs : ∀ e ∈ es, Turn1 g tt te vs σ H enc p F e) : EvDs (tLc (iTup K tl) g tt te vs) σ H ((es.filter p).map F) := fun H0 e0 Q q =>
  h H0 e0 _ fun u H1 e1 hu => by
    obtain ⟨a, xs, rfl, ha, x⟩ := hu.tup
    exact ⟨a, rfl, ⟨xs, SqT.of ha⟩, fun Dl hD =>
    lc_tup (xs := xs) (Cd H1 p F es Dl) ⟨hD, Ex.new hD, [], upd_same, by rw [List.take_zero]; exact .nil⟩ (fun i H' _ c => SqT.of (c.2.1 _ _ ha)) (fun i v H' hv c => by
      obtain ⟨d, hd, y⟩ := x.to hv
      rw [List.getElem?_map] at hd
      obtain ⟨e, he, rfl⟩ := Option.map_eq_some_iff.mp hd
      exact hs e (List.mem_of_getElem? he) v H' ((e0.trans e1).trans c.2.1) (y.mono c.2.1) _ fun σ2 H3 e3 hw ht hte => ⟨hw, cd_turn c he hz e3 ht hte⟩)
      (fun H' c => by
        obtain ⟨c1, c2, acc, c3, c4⟩ := c
        have hl := x.len
        rw [List.length_map] at hl
        rw [hl, List.take_length] at c4
        exact q Dl acc H' (fresh_back e1 c1) (e1.trans c2) c3 c4)⟩
theorem eds_lcR {ta : TA} {m : Nat} (p : Nat → Bool) (F : Nat → PyData) (h : EvA ta σ H [.int (m : Int)]) (hz : m ≤ 40000) (hs : ∀ i, i < m → Turn1 g tt te vs σ H (fun i : Nat => PyData.int (i : Int)) p F i) : EvDs (tLc (iRng1 ta) g tt te vs) σ H (((List.range m).filter p).map F) := fun H0 e0 Q q =>
  h H0 e0 _ fun H1 e1 => ⟨(m : Int), rfl, by omega, by omega, fun Dl hD =>
    lc_range (lo := 0) (n := (m : Int).toNat) (Cd H1 p F (List.range m) Dl) ⟨hD, Ex.new hD, [], upd_same, by rw [List.take_zero]; exact .nil⟩ (fun i H' hi c => by
      rw [show (0 : Int) + (i : Int) = (i : Int) from Int.zero_add _]
      have hm : i < m := by omega
      exact hs i hm (.int (i : Int)) H' ((e0.trans e1).trans c.2.1) (TDs.int _ .nil) _ fun σ2 H3 e3 hw ht hte => ⟨hw, cd_turn c (List.getElem?_range hm) (by rw [List.length_range]; exact hz) e3 ht hte⟩)
      (fun H' c => by
        obtain ⟨c1, c2, acc, c3, c4⟩ := c
        rw [Int.toNat_natCast, List.take_of_length_le (by rw [List.length_range]; exact Nat.le_refl _)] at c4
        exact q Dl acc H' (fresh_back e1 c1) (e1.trans c2) c3 c4)⟩
/-- the target a name -/
theorem turn_nm {j : Nat} {e : α} (hw : ∀ x, wipe ((wipe σ vs).set j (some x)) vs = wipe σ vs) (ht : ∀ v H1, Ex H H1 → TD1 H1 v (enc e) → EvT tt ((wipe σ vs).set j (some v)) H1 (p e)) (he : ∀ v H1, Ex H H1 → TD1 H1 v (enc e) → p e = true → EvD te ((wipe σ vs).set j (some v)) H1 (F e)) : Turn1 (gName j) tt te vs σ H enc p F e :=
  fun v H1 e1 x kk k => k _ H1 (Ex.refl _) (hw v) (ht v H1 e1 x) (he v H1 e1 x)
/-- the target two names -/
theorem turn_t2 {i1 i2 : Nat} {e : α} {d1 d2 : PyData} (henc : enc e = .tuple [d1, d2]) (hw : ∀ x y, wipe (((wipe σ vs).set i1 (some x)).set i2 (some y)) vs = wipe σ vs)
    (ht : ∀ u v H1, Ex H H1 → TD1 H1 u d1 → TD1 H1 v d2 → EvT tt (((wipe σ vs).set i1 (some u)).set i2 (some v)) H1 (p e)) (he : ∀ u v H1, Ex H H1 → TD1 H1 u d1 → TD1 H1 v d2 → p e = true → EvD te (((wipe σ vs).set i1 (some u)).set i2 (some v)) H1 (F e)) :
    Turn1 (gTup K 2 (gCons (gName i1) (gCons (gName i2) gNil))) tt te vs σ H enc p F e := fun v H1 e1 x kk k => by
  rw [henc] at x
  obtain ⟨a, xs, rfl, ha, y⟩ := x.tup
  obtain ⟨u1, ys, rfl, x1, y⟩ := y.inv
  obtain ⟨u2, zs, rfl, x2, y⟩ := y.inv
  cases y.inv0
  exact ⟨a, _, rfl, SqT.of ha, rfl, u1, _, rfl, u2, _, rfl, rfl, k _ H1 (Ex.refl _) (hw u1 u2) (ht u1 u2 H1 e1 x1 x2) (he u1 u2 H1 e1 x1 x2)⟩
theorem filt_all (es : List α) : es.filter (fun _ => true) = es := List.filter_eq_self.mpr fun _ _ => rfl
end
end Q
set_option Elab.async false
set_option linter.all false
set_option maxRecDepth 100000
set_option maxHeartbeats 2000000
/-! walks over what is told, comprehensions over them, of one clause and of two -/
namespace Q
open PySem L2 PySem.Spec PyProof.Rows PySem.Calls
open Evl
/-- a walk that gives what is told, from this heap on -/
structure DW (J : It) (H1 : Hp) (ds : List PyData) : Prop where
  ex : ∃ (G : Hp → Prop) (Y : Nat → Hp → V → Hp → Prop), Walk J ds.length G Y ∧ (∀ H', Ex H1 H' → G H') ∧ ∀ (i : Nat) x H H', i < ds.length → Ex H1 H → Y i H x H' → Ex H H' ∧ ∃ d, ds[i]? = some d ∧ TD1 H' x d
theorem dw_list {K : PySem.W.Frag} {H1 : Hp} {a : Addr} {xs : List V} {ds : List PyData} (ha : H1 a = some (.lst xs)) (x : TDs H1 xs ds) : DW (Itl K a) H1 ds := by
  refine ⟨_, _, x.len ▸ walk_list (K := K) (a := a) (xs := xs), fun H' e => SqL.of (e _ _ ha), fun i v H H' hi e y => ?_⟩
  obtain ⟨rfl, hv⟩ := y
  obtain ⟨d, hd, t⟩ := x.to hv
  exact ⟨Ex.refl _, d, hd, t.mono e⟩
theorem dw_tup {K : PySem.W.Frag} {H1 : Hp} {a : Addr} {xs : List V} {ds : List PyData} (ha : H1 a = some (.tup xs)) (x : TDs H1 xs ds) : DW (Itt K a) H1 ds := by
  refine ⟨_, _, x.len ▸ walk_tup (K := K) (a := a) (xs := xs), fun H' e => SqT.of (e _ _ ha), fun i v H H' hi e y => ?_⟩
  obtain ⟨rfl, hv⟩ := y
  obtain ⟨d, hd, t⟩ := x.to hv
  exact ⟨Ex.refl _, d, hd, t.mono e⟩
/-- each with its index -/
def numD (ds : List PyData) : List PyData := (List.range ds.length).map fun (i : Nat) => PyData.tuple [.int (i : Int), ds.getD i .none]
theorem numD_len (ds : List PyData) : (numD ds).length = ds.length := by
  unfold numD
  rw [List.length_map, List.length_range]
theorem numD_at {ds : List PyData} {i : Nat} {d : PyData} (h : ds[i]? = some d) : (numD ds)[i]? = some (.tuple [.int (i : Int), d]) := by
  have hlt := (List.getElem?_eq_some_iff.mp h).1
  unfold numD
  rw [List.getElem?_map, List.getElem?_range hlt]
  show some (PyData.tuple [PyData.int (i : Int), ds.getD i PyData.none]) = _
  rw [List.getD_eq_getElem?_getD, h]
  rfl
theorem pair_td {H H' : Hp} {v x y : V} {T : Addr} {d e : PyData} (hn : H T = none) (he : H' = upd H T (.tup [x, y])) (hx : TD1 H x d) (hy : TD1 H y e) : Ex H H' ∧ TD1 H' (.ref T) (.tuple [d, e]) := by
  subst he
  exact ⟨Ex.new hn, TD1.mk upd_same ((TDs.cons hx (TDs.cons hy .nil)).mono (Ex.new hn))⟩
theorem dw_enum {K : PySem.W.Frag} {H1 : Hp} {a : Addr} {xs : List V} {ds : List PyData} (ha : H1 a = some (.lst xs)) (x : TDs H1 xs ds) : DW (Ite K a) H1 (numD ds) := by
  refine ⟨_, _, (by rw [numD_len]; exact x.len ▸ walk_enum (K := K) (a := a) (xs := xs)), fun H' e => SqL.of (e _ _ ha), fun i v H H' hi e y => ?_⟩
  obtain ⟨T, u, z, rfl, hT, hH, hu, hz⟩ := y
  cases hu
  obtain ⟨d, hd, t⟩ := x.to hz
  obtain ⟨e2, t2⟩ := pair_td (v := .ref T) hT hH (TDs.int (i : Int) .nil) (t.mono e)
  exact ⟨e2, _, numD_at hd, t2⟩
theorem dw_zip {K : PySem.W.Frag} {H1 : Hp} {a b : Addr} {xs ys : List V} {α : Type} {f g : α → PyData} {es : List α} (ha : H1 a = some (.lst xs)) (hb : H1 b = some (.lst ys)) (x : TDs H1 xs (es.map f)) (y : TDs H1 ys (es.map g)) : DW (Itz K a b) H1 (es.map fun e => .tuple [f e, g e]) := by
  have l1 := x.len
  have l2 := y.len
  rw [List.length_map] at l1 l2
  refine ⟨_, _, walk_zip (K := K) (a := a) (b := b) (xs := xs) (ys := ys) (by rw [List.length_map]; omega), fun H' e => ⟨SqL.of (e _ _ ha), SqL.of (e _ _ hb)⟩, fun i v H H' hi e q => ?_⟩
  obtain ⟨T, u, z, rfl, hT, hH, hu, hz⟩ := q
  obtain ⟨d, hd, t⟩ := x.to hu
  obtain ⟨c, hc, s⟩ := y.to hz
  rw [List.getElem?_map] at hd hc
  obtain ⟨α1, he, rfl⟩ := Option.map_eq_some_iff.mp hd
  rw [he] at hc
  cases hc
  obtain ⟨e2, t2⟩ := pair_td (v := .ref T) hT hH (t.mono e) (s.mono e)
  exact ⟨e2, _, by rw [List.getElem?_map, he]; rfl, t2⟩
/-- something walked that gives what is told -/
def EvI (wi : L2.TI) (σ : L2.St) (H : Hp) (ds : List PyData) : Prop := ∀ H1, Ex H H1 → ∀ R : It → Hp → Prop, (∀ J H2, Ex H1 H2 → DW J H2 ds → R J H2) → wi σ H1 R
section
variable {K : PySem.W.Frag} {σ : L2.St} {H H' : Hp} {ta : TA} {te tl tb : TE} {ds : List PyData} {wi wi1 : L2.TI}
theorem EvI.mono (e : Ex H H') (h : EvI wi σ H ds) : EvI wi σ H' ds := fun H1 a R q => h H1 (e.trans a) R q
theorem ei_list (h : EvLd tl σ H ds) : EvI (iList K tl) σ H ds := fun H1 e R q => h H1 e _ fun a xs H2 e2 ha x => ⟨a, rfl, ⟨xs, SqL.of ha⟩, q _ H2 e2 (dw_list ha x)⟩
theorem ei_tup (h : EvD tl σ H (.tuple ds)) : EvI (iTup K tl) σ H ds := fun H1 e R q => h H1 e _ fun v H2 e2 hv => by
  obtain ⟨a, xs, rfl, ha, x⟩ := hv.tup
  exact ⟨a, rfl, ⟨xs, SqT.of ha⟩, q _ H2 e2 (dw_tup ha x)⟩
theorem ei_enum (h : EvLd tl σ H ds) : EvI (iEnum K (tCons tl tNil)) σ H (numD ds) := fun H1 e R q => h H1 e _ fun a xs H2 e2 ha x => ⟨a, xs, rfl, SqL.of ha, q _ H2 e2 (dw_enum ha x)⟩
theorem ei_zip {α : Type} {f g : α → PyData} {es : List α} (h1 : EvLd tl σ H (es.map f)) (h2 : EvLd tb σ H (es.map g)) : EvI (iZip K (tCons tl (tCons tb tNil))) σ H (es.map fun e => .tuple [f e, g e]) := fun H1 e R q =>
  h1 H1 e _ fun a xs H2 e2 ha x => h2 H2 (e.trans e2) _ fun b ys H3 e3 hb y => ⟨a, b, xs, ys, rfl, SqL.of (e3 _ _ ha), SqL.of hb, q _ H3 (e2.trans e3) (dw_zip (e3 _ _ ha) hb (x.mono e3) y)⟩
end
/-- the comprehension's list as it grows behind what stands there -/
def Cb {α : Type} (H : Hp) (b : List PyData) (p : α → Bool) (F : α → PyData) (es : List α) (Dl : Addr) (i : Nat) (H' : Hp) : Prop := H Dl = none ∧ Ex H H' ∧ ∃ acc : List V, H' Dl = some (.lst acc) ∧ TDs H' acc (b ++ ((es.take i).filter p).map F)
section
variable {α : Type} {enc : α → PyData} {es : List α} {p : α → Bool} {F : α → PyData} {b0 : List PyData}
variable {K : PySem.W.Frag} {σ : L2.St} {H : Hp} {te tl : TE} {tt : TT} {g : TG} {vs : List Nat} {wi : L2.TI}
theorem cb_turn {H1 H' H3 : Hp} {Dl : Addr} {i : Nat} {e : α} {σ2 : L2.St} (c : Cb H1 b0 p F es Dl i H') (hi : es[i]? = some e) (hz : b0.length + es.length ≤ 50000) (e3 : Ex H' H3) (ht : EvT tt σ2 H3 (p e)) (he : p e = true → EvD te σ2 H3 (F e)) :
    tt σ2 H3 fun b H4 => if b = true then te σ2 H4 fun y H5 => ∃ acc, H5 Dl = some (.lst acc) ∧ acc.length < sizeLine ∧ Cb H1 b0 p F es Dl (i + 1) (upd H5 Dl (.lst (acc ++ [y]))) else Cb H1 b0 p F es Dl (i + 1) H4 := by
  obtain ⟨c1, c2, acc, c3, c4⟩ := c
  have hlt := (List.getElem?_eq_some_iff.mp hi).1
  refine ht H3 (Ex.refl _) _ fun H4 e4 => ?_
  have e34 := e3.trans e4
  cases hp : p e with
  | true =>
    show te σ2 H4 fun y H5 => ∃ acc, H5 Dl = some (.lst acc) ∧ acc.length < sizeLine ∧ Cb H1 b0 p F es Dl (i + 1) (upd H5 Dl (.lst (acc ++ [y])))
    refine he hp H4 e4 _ fun y H5 e5 x => ⟨acc, (e34.trans e5) _ _ c3, sz_lt ?_, c1, Ex.mut (c2.trans (e34.trans e5)) c1, acc ++ [y], upd_same, ?_⟩
    · rw [c4.len, List.length_append, List.length_map]
      have := List.length_filter_le p (es.take i)
      rw [List.length_take] at this
      omega
    · rw [take_snoc hi, List.filter_append, List.map_append]
      have hf : [e].filter p = [e] := by rw [List.filter_cons, if_pos hp]; rfl
      rw [hf, ← List.append_assoc]
      exact ((c4.mono (e34.trans e5)).app x).by (upd_tup ((e34.trans e5) _ _ c3))
  | false =>
    show Cb H1 b0 p F es Dl (i + 1) H4
    refine ⟨c1, c2.trans e34, acc, e34 _ _ c3, ?_⟩
    rw [take_snoc hi, List.filter_append, List.map_append]
    have hf : [e].filter p = [] := by rw [List.filter_cons, if_neg (by rw [hp]; decide)]; rfl
    rw [hf, List.map_nil, List.append_nil]
    exact c4.mono e34
theorem eds_it (p : α → Bool) (F : α → PyData) (h : EvI wi σ H (es.map enc)) (hz : es.length ≤ 40000) (hs : ∀ e ∈ es, Turn1 g tt te vs σ H enc p F e) : EvDs (tLc wi g tt te vs) σ H ((es.filter p).map F) := fun H0 e0 Q q =>
  h H0 e0 _ fun J H1 e1 dw Dl hD => by
    obtain ⟨G, Y, w, hG, hY⟩ := dw.ex
    rw [List.length_map] at w hY
    refine lc_it w (Cb H1 [] p F es Dl) ⟨hD, Ex.new hD, [], upd_same, by rw [List.take_zero]; exact .nil⟩ (fun i H' _ c => hG H' c.2.1) (fun i x H2 H3 hi c y => ?_) fun H' c => ?_
    · obtain ⟨e3, d, hd, t⟩ := hY i x H2 H3 hi c.2.1 y
      rw [List.getElem?_map] at hd
      obtain ⟨e, he, rfl⟩ := Option.map_eq_some_iff.mp hd
      exact hs e (List.mem_of_getElem? he) x H3 ((e0.trans e1).trans (c.2.1.trans e3)) t _ fun σ2 H4 e4 hw ht hte => ⟨hw, cb_turn c he (by show 0 + es.length ≤ 50000; omega) (e3.trans e4) ht hte⟩
    · obtain ⟨c1, c2, acc, c3, c4⟩ := c
      rw [List.take_length] at c4
      exact q Dl acc H' (fresh_back e1 c1) (e1.trans c2) c3 c4
/-- as it was but for the list at D -/
def Mx (D : Addr) (H H' : Hp) : Prop := ∀ l o, l ≠ D → H l = some o → H' l = some o
def TKp (H H' : Hp) : Prop := ∀ a xs, H a = some (.tup xs) → H' a = some (.tup xs)
theorem Mx.tk {D : Addr} {H H' : Hp} {xs : List V} (m : Mx D H H') (h : H D = some (.lst xs)) : TKp H H' := fun a ys ha => m a _ (fun z => by
  rw [z, h] at ha
  cases ha) ha
structure DWm (Dl : Addr) (J : It) (H1 : Hp) (ds : List PyData) : Prop where
  ex : ∃ (G : Hp → Prop) (Y : Nat → Hp → V → Hp → Prop), Walk J ds.length G Y ∧ (∀ H', Mx Dl H1 H' → G H') ∧ ∀ (i : Nat) x H H', i < ds.length → Mx Dl H1 H → Y i H x H' → Ex H H' ∧ ∃ d, ds[i]? = some d ∧ TD1 H' x d
theorem dwm_list {K : PySem.W.Frag} {H1 : Hp} {a Dl : Addr} {xs ys : List V} {ds : List PyData} (ha : H1 a = some (.lst xs)) (x : TDs H1 xs ds) (hD : H1 Dl = some (.lst ys)) (na : a ≠ Dl) : DWm Dl (Itl K a) H1 ds := by
  refine ⟨_, _, x.len ▸ walk_list (K := K) (a := a) (xs := xs), fun H' e => SqL.of (e _ _ na ha), fun i v H H' hi e y => ?_⟩
  obtain ⟨rfl, hv⟩ := y
  obtain ⟨d, hd, t⟩ := x.to hv
  exact ⟨Ex.refl _, d, hd, t.by (e.tk hD)⟩
theorem dwm_tup {K : PySem.W.Frag} {H1 : Hp} {a Dl : Addr} {xs ys : List V} {ds : List PyData} (ha : H1 a = some (.tup xs)) (x : TDs H1 xs ds) (hD : H1 Dl = some (.lst ys)) : DWm Dl (Itt K a) H1 ds := by
  refine ⟨_, _, x.len ▸ walk_tup (K := K) (a := a) (xs := xs), fun H' e => SqT.of (e.tk hD _ _ ha), fun i v H H' hi e y => ?_⟩
  obtain ⟨rfl, hv⟩ := y
  obtain ⟨d, hd, t⟩ := x.to hv
  exact ⟨Ex.refl _, d, hd, t.by (e.tk hD)⟩
/-- something walked within a comprehension's turn -/
def EvIm (wi : L2.TI) (σ : L2.St) (H : Hp) (ds : List PyData) : Prop := ∀ H1, Ex H H1 → ∀ Dl, (∃ xs, H1 Dl = some (.lst xs)) → ∀ R : It → Hp → Prop, (∀ J H2, Ex H1 H2 → DWm Dl J H2 ds → R J H2) → wi σ H1 R
theorem em_new {K : PySem.W.Frag} {σ : L2.St} {H : Hp} {tl : TE} {ds : List PyData} (h : EvDs tl σ H ds) : EvIm (iList K tl) σ H ds := fun H1 e Dl ⟨ys, hD⟩ R q => h H1 e _ fun a xs H2 hn e2 ha x => ⟨a, rfl, ⟨xs, SqL.of ha⟩, q _ H2 e2 (dwm_list ha x (e2 _ _ hD) fun z => by
  rw [z, hD] at hn
  cases hn)⟩
theorem em_tup {K : PySem.W.Frag} {σ : L2.St} {H : Hp} {tl : TE} {ds : List PyData} (h : EvD tl σ H (.tuple ds)) : EvIm (iTup K tl) σ H ds := fun H1 e Dl ⟨ys, hD⟩ R q => h H1 e _ fun v H2 e2 hv => by
  obtain ⟨a, xs, rfl, ha, x⟩ := hv.tup
  exact ⟨a, rfl, ⟨xs, SqT.of ha⟩, q _ H2 e2 (dwm_tup ha x (e2 _ _ hD))⟩
/-- the outer turn of two clauses: the target, then the inner walk with its own turns -/
def Turn2 {β : Type} (g : TG) (wi1 : L2.TI) (g1 : TG) (tt1 : TT) (te : TE) (vs vs1 : List Nat) (σ : L2.St) (H : Hp) (enc : α → PyData) (enc1 : β → PyData) (sub : α → List β) (p1 : α → β → Bool) (F1 : α → β → PyData) (e : α) : Prop := ∀ v H1, Ex H H1 → TD1 H1 v (enc e) → ∀ kk : L2.St → Hp → Prop,
  (∀ σ2 H2, Ex H1 H2 → wipe σ2 vs = wipe σ vs → EvIm wi1 σ2 H2 ((sub e).map enc1) → (∀ f ∈ sub e, ∀ H3, TKp H2 H3 → Turn1 g1 tt1 te vs1 σ2 H3 enc1 (p1 e) (F1 e) f) → kk σ2 H2) → g v (wipe σ vs) H1 kk
theorem flat_len {β : Type} (R : α → List β) {c : Nat} : ∀ {l : List α}, (∀ e ∈ l, (R e).length ≤ c) → (l.flatMap R).length ≤ l.length * c
  | [], _ => by simp
  | e :: l, h => by
    rw [List.flatMap_cons, List.length_append, List.length_cons, Nat.add_mul, Nat.one_mul]
    have h1 := flat_len R (l := l) fun x hx => h x (List.mem_cons_of_mem _ hx)
    have h2 := h e List.mem_cons_self
    omega
theorem Mx.upd {D : Addr} {H H' : Hp} {o : HO} (m : Mx D H H') : Mx D H (upd H' D o) := fun l u n q => by
  rw [upd_ne n]
  exact m l u n q
/-- what has been put in by the outer turns -/
def Co (H : Hp) (R : α → List PyData) (es : List α) (Dl : Addr) (i : Nat) (H' : Hp) : Prop := H Dl = none ∧ Ex H H' ∧ ∃ acc : List V, H' Dl = some (.lst acc) ∧ TDs H' acc ((es.take i).flatMap R)
/-- .. within a turn -/
def Ci {β : Type} (H H5 : Hp) (b0 : List PyData) (p : β → Bool) (F : β → PyData) (es : List β) (Dl : Addr) (i : Nat) (H' : Hp) : Prop := Cb H b0 p F es Dl i H' ∧ Mx Dl H5 H'
theorem ci_turn {β : Type} {b0 : List PyData} {p : β → Bool} {F : β → PyData} {es : List β} {H1 H5 H' H3 : Hp} {Dl : Addr} {i : Nat} {e : β} {σ2 : L2.St} (c : Ci H1 H5 b0 p F es Dl i H') (hi : es[i]? = some e) (hz : b0.length + es.length ≤ 50000) (e3 : Ex H' H3) (ht : EvT tt σ2 H3 (p e)) (he : p e = true → EvD te σ2 H3 (F e)) :
    tt σ2 H3 fun b H4 => if b = true then te σ2 H4 fun y H6 => ∃ acc, H6 Dl = some (.lst acc) ∧ acc.length < sizeLine ∧ Ci H1 H5 b0 p F es Dl (i + 1) (upd H6 Dl (.lst (acc ++ [y]))) else Ci H1 H5 b0 p F es Dl (i + 1) H4 := by
  obtain ⟨⟨c1, c2, acc, c3, c4⟩, c5⟩ := c
  have hlt := (List.getElem?_eq_some_iff.mp hi).1
  refine ht H3 (Ex.refl _) _ fun H4 e4 => ?_
  have e34 := e3.trans e4
  cases hp : p e with
  | true =>
    show te σ2 H4 fun y H6 => ∃ acc, H6 Dl = some (.lst acc) ∧ acc.length < sizeLine ∧ Ci H1 H5 b0 p F es Dl (i + 1) (upd H6 Dl (.lst (acc ++ [y])))
    refine he hp H4 e4 _ fun y H6 e6 x => ⟨acc, (e34.trans e6) _ _ c3, sz_lt ?_, ⟨c1, Ex.mut (c2.trans (e34.trans e6)) c1, acc ++ [y], upd_same, ?_⟩, Mx.upd fun l o n q => (e34.trans e6) _ _ (c5 l o n q)⟩
    · rw [c4.len, List.length_append, List.length_map]
      have := List.length_filter_le p (es.take i)
      rw [List.length_take] at this
      omega
    · rw [take_snoc hi, List.filter_append, List.map_append]
      have hf : [e].filter p = [e] := by rw [List.filter_cons, if_pos hp]; rfl
      rw [hf, ← List.append_assoc]
      exact ((c4.mono (e34.trans e6)).app x).by (upd_tup ((e34.trans e6) _ _ c3))
  | false =>
    show Ci H1 H5 b0 p F es Dl (i + 1) H4
    refine ⟨⟨c1, c2.trans e34, acc, e34 _ _ c3, ?_⟩, fun l o n q => e34 _ _ (c5 l o n q)⟩
    rw [take_snoc hi, List.filter_append, List.map_append]
    have hf : [e].filter p = [] := by rw [List.filter_cons, if_neg (by rw [hp]; decide)]; rfl
    rw [hf, List.map_nil, List.append_nil]
    exact c4.mono e34
theorem eds_it2 {β : Type} {enc1 : β → PyData} {wi1 : L2.TI} {g1 : TG} {tt1 : TT} {vs1 : List Nat} {sub : α → List β} {p1 : α → β → Bool} {F1 : α → β → PyData} (h : EvI wi σ H (es.map enc)) (hz : es.length ≤ 300) (hz1 : ∀ e ∈ es, (sub e).length ≤ 100)
    (hs : ∀ e ∈ es, Turn2 g wi1 g1 tt1 te vs vs1 σ H enc enc1 sub p1 F1 e) : EvDs (tLc2 wi g tYes wi1 g1 tt1 te vs vs1) σ H (es.flatMap fun e => ((sub e).filter (p1 e)).map (F1 e)) := fun H0 e0 Q q =>
  h H0 e0 _ fun J H1 e1 dw Dl hD => by
    obtain ⟨G, Y, w, hG, hY⟩ := dw.ex
    rw [List.length_map] at w hY
    have hR : ∀ e ∈ es, (((sub e).filter (p1 e)).map (F1 e)).length ≤ 100 := fun e he => by
      rw [List.length_map]
      exact Nat.le_trans (List.length_filter_le _ _) (hz1 e he)
    refine ⟨fun i m H' => m = es.length - i ∧ i ≤ es.length ∧ Co H1 (fun e => ((sub e).filter (p1 e)).map (F1 e)) es Dl i H', ⟨es.length, by simp, Nat.zero_le _, hD, Ex.new hD, [], upd_same, by rw [List.take_zero]; exact .nil⟩, ?_⟩
    rintro i m H2 ⟨rfl, hi, c⟩
    obtain ⟨c1, c2, acc, c3, c4⟩ := c
    by_cases hlt : i < es.length
    · refine .inr ⟨w.goes i H2 hlt (hG H2 c2), Co H1 (fun e => ((sub e).filter (p1 e)).map (F1 e)) es Dl (i + 1), fun H' c' => ⟨es.length - (i + 1), by omega, rfl, hlt, c'⟩, fun x H3 y => ?_⟩
      obtain ⟨e3, d, hd, t⟩ := hY i x H2 H3 hlt c2 (w.yields i H2 x H3 hlt (hG H2 c2) y)
      rw [List.getElem?_map] at hd
      obtain ⟨e, he, rfl⟩ := Option.map_eq_some_iff.mp hd
      have hem := List.mem_of_getElem? he
      have b0 : ((es.take i).flatMap fun e => ((sub e).filter (p1 e)).map (F1 e)).length ≤ 30000 := by
        have z := flat_len (fun e => ((sub e).filter (p1 e)).map (F1 e)) (c := 100) (l := es.take i) fun a ha => hR a (List.mem_of_mem_take ha)
        rw [List.length_take] at z
        omega
      refine hs e hem x H3 ((e0.trans e1).trans (c2.trans e3)) t _ fun σ2 H4 e4 hw hi1 ht1 => ⟨hw, yes_ite ?_⟩
      have e24 := e3.trans e4
      refine hi1 H4 (Ex.refl _) Dl ⟨acc, e24 _ _ c3⟩ _ fun J1 H5 e5 dw1 => ?_
      obtain ⟨G1, Y1, w1, hG1, hY1⟩ := dw1.ex
      rw [List.length_map] at w1 hY1
      have e25 := e24.trans e5
      have l1 := hz1 e hem
      refine ⟨fun j k H' => k = (sub e).length - j ∧ j ≤ (sub e).length ∧ Ci H1 H5 ((es.take i).flatMap fun e => ((sub e).filter (p1 e)).map (F1 e)) (p1 e) (F1 e) (sub e) Dl j H', ⟨(sub e).length, by simp, Nat.zero_le _, ⟨c1, c2.trans e25, acc, e25 _ _ c3, ?_⟩, fun l o _ q => q⟩, ?_⟩
      · rw [List.take_zero, List.filter_nil, List.map_nil, List.append_nil]
        exact c4.mono e25
      · rintro j k H6 ⟨rfl, hj, ci⟩
        by_cases hjl : j < (sub e).length
        · refine .inr ⟨w1.goes j H6 hjl (hG1 H6 ci.2), Ci H1 H5 _ (p1 e) (F1 e) (sub e) Dl (j + 1), fun H' c' => ⟨(sub e).length - (j + 1), by omega, rfl, hjl, c'⟩, fun x1 H7 y1 => ?_⟩
          obtain ⟨e7, d1, hd1, t1⟩ := hY1 j x1 H6 H7 hjl ci.2 (w1.yields j H6 x1 H7 hjl (hG1 H6 ci.2) y1)
          rw [List.getElem?_map] at hd1
          obtain ⟨f, hf, rfl⟩ := Option.map_eq_some_iff.mp hd1
          have tk : TKp H4 H7 := fun a xs ha => e7 _ _ (ci.2.tk (e25 _ _ c3) _ _ (e5 _ _ ha))
          exact ht1 f (List.mem_of_getElem? hf) H7 tk x1 H7 (Ex.refl _) t1 _ fun σ3 H8 e8 hw3 htt hte => ⟨hw3, ci_turn ci hf (by omega) (e7.trans e8) htt hte⟩
        · have ej : j = (sub e).length := by omega
          subst ej
          refine .inl ⟨w1.stops H6 (hG1 H6 ci.2), ?_⟩
          obtain ⟨⟨d1, d2, acc2, d3, d4⟩, _⟩ := ci
          rw [List.take_length] at d4
          refine ⟨d1, d2, acc2, d3, ?_⟩
          rw [take_snoc he, List.flatMap_append, List.flatMap_cons, List.flatMap_nil, List.append_nil]
          exact d4
    · have e : i = es.length := by omega
      subst e
      rw [List.take_length] at c4
      exact .inl ⟨w.stops H2 (hG H2 c2), q Dl acc H2 (fresh_back e1 c1) (e1.trans c2) c3 c4⟩
end
end Q
set_option Elab.async false
set_option linter.all false
set_option maxRecDepth 100000
set_option maxHeartbeats 4000000
/-! lambdas with one parameter that has a written default, handed to a def -/
namespace LamY
open PySem PySem.Spec PyProof.Rows L2 LamX
section
variable {X : Cx} {pins : List (Addr × Obj)} {σ : L2.St} {H : Hp} {s : Shared}
theorem frs_new (I : Inv X pins σ H s) {f : Addr} (hf : s.heap.objs.size ≤ f) : f ∉ frs X.stack := fun z => by
  rcases List.mem_cons.mp (I.stkSub _ z) with e | e
  · have l : X.env.locals < s.heap.objs.size := I.lt
    have e : f = X.env.locals := e
    rw [← e] at l
    exact absurd (Nat.lt_of_lt_of_le l hf) (Nat.lt_irrefl _)
  · exact I.nofs hf e
/-- the rest of the making: the code object is new, or in the table -/
theorem tail_make {T : List (Addr × Str)} {c P : Addr} {params : Arguments} {body : Expr} {scope : Scope} {pos : Pos} {dV : Value} {R : Value → Shared → Prop} {Q : Value → Shared → Prop} (I : Inv X pins σ H s) (TB : TabB X.base X.mg c P) (hcode : X.env.code = .ref c)
    (hm : (P, X.env.qual ++ "<lambda>") ∈ T) (hu : ∀ p ∈ T, p.1 = P → p.2 = X.env.qual ++ "<lambda>") (hT : Tabs T H) (hfree : ∀ y ∈ scope.names, y.2 = .free → ∃ c, X.env.cells.lookup y.1 = some c)
    (h : ∀ (f c' : Addr) (doc pm ctv : Value) (H1 : Hp) (s' : Shared), Inv X pins σ H1 s' → ExtN H H1 → Tabs T H1 → (∀ b o, b ≠ P → s.heap.get? b = some o → s'.heap.get? b = some o) → (∀ b, b < s.heap.objs.size → H b = none → H1 b = none) →
      s'.heap.get? f = some (PySem.W.kdv_obj "<lambda>" (X.env.qual ++ "<lambda>") params (.expr body) scope (cloFrom X.env.cells scope.names []) dV doc pm c' ctv) → H1 f = none → f ∉ frs X.stack → H1 c' = some (CodeO c' (X.env.qual ++ "<lambda>")) → Q (.ref f) s') :
    wpAny (model X.prog X.w) X.A (makeTail "<lambda>" (X.env.qual ++ "<lambda>") params (.expr body) scope X.env dV .none none pos pos.line) Q R s := by
  obtain ⟨ps, tabP, trip, named⟩ := hT _ hm
  have builtP : s.heap.BuiltinsAt X.mg P := TB.bm.keeps I.bk
  have objP : s.heap.get? P = some { cls := .none, data := .fields ps } := I.hok P _ tabP
  cases hc : codeAmong pos ps.toList with
  | none =>
    refine PySem.W.kdv_makeTail (mg := X.mg) (c := c) (P := P) (ps := ps) (closure_ok hfree) I.ok.glob (I.mod.glob.keeps I.bk) hcode (TB.code.keeps I.bk) objP trip hc TB.gP builtP fun c' ctv doc h' tk keep ge lt rec tab' => ?_
    obtain ⟨c2, oc, vs, t, ec, hoc, hd, hv⟩ := rec
    cases ec
    have szs : s.heap.objs.size ≤ h'.objs.size := Nat.le_trans ge (Nat.le_of_lt lt)
    have nC : H c' = none := I.hok.fresh ge
    have J := inv_table (t' := tk) (more := #[rawInt pos.line, rawInt pos.col, .ref c']) (h' := h'.push (PySem.W.kdv_obj "<lambda>" (X.env.qual ++ "<lambda>") params (.expr body) scope (cloFrom X.env.cells scope.names []) dV doc ((X.mg "__name__").getD .none) c' ctv)) I tabP
      (fun b o nb e => Heap.get?_push_of_some _ (keep b o nb e)) (Heap.get?_push_of_some _ tab') ge ⟨oc, vs, t, Heap.get?_push_of_some _ hoc, hd, hv⟩
    have nPc : P ≠ c' := ne_of_none tabP nC
    have ext : ExtN H (upd (upd H P (.tbl (ps ++ #[rawInt pos.line, rawInt pos.col, .ref c']))) c' (CodeO c' (X.env.qual ++ "<lambda>"))) := fun b o e n => by
      have nbP : b ≠ P := fun z => n ps (Option.some.inj (e.symm.trans (by rw [z]; exact tabP)))
      rw [upd_ne (ne_of_none e nC), upd_ne nbP]
      exact e
    have lst : (ps ++ #[rawInt pos.line, rawInt pos.col, .ref c']).toList = ps.toList ++ [rawInt pos.line, rawInt pos.col, .ref c'] := by simp
    refine h h'.objs.size c' doc ((X.mg "__name__").getD .none) ctv _ _ J ext (fun p hp => ?_) (fun b o nb e => Heap.get?_push_of_some _ (keep b o nb e)) (fun b hb n => ?_) (Heap.get?_push_size _ rfl) ?_ (frs_new I szs) upd_same
    · by_cases q : p.1 = P
      · rw [hu p hp q, q]
        refine ⟨_, by rw [upd_ne nPc, upd_same], by rw [lst]; exact PySem.TriplesOk_snoc _ _ _ _ trip, fun p' cv hcv => ?_⟩
        rw [lst] at hcv
        rcases among_app _ trip hcv with z | z
        · obtain ⟨c0, e1, e2⟩ := named p' cv z
          exact ⟨c0, e1, ext _ _ e2 codeO_ne⟩
        · exact ⟨c', z, upd_same⟩
      · obtain ⟨ps', a1, a2, a3⟩ := hT p hp
        refine ⟨ps', by rw [upd_ne (ne_of_none a1 nC), upd_ne q]; exact a1, a2, fun p' cv hcv => ?_⟩
        obtain ⟨c0, e1, e2⟩ := a3 p' cv hcv
        exact ⟨c0, e1, ext _ _ e2 codeO_ne⟩
    · have nb : b ≠ P := fun z => by
        rw [z, tabP] at n
        cases n
      rw [upd_ne (show b ≠ c' by omega), upd_ne nb]
      exact n
    · have n2 : h'.objs.size ≠ P := Nat.ne_of_gt (Nat.lt_of_lt_of_le (Heap.lt_size objP) szs)
      rw [upd_ne (Nat.ne_of_gt lt), upd_ne n2]
      exact I.hok.fresh szs
  | some cv =>
    obtain ⟨c', ecv, hco⟩ := named pos cv hc
    subst ecv
    refine PySem.W.kdv_makeTailHit (mg := X.mg) (c := c) (P := P) (ps := ps) (closure_ok hfree) I.ok.glob (I.mod.glob.keeps I.bk) hcode (TB.code.keeps I.bk) objP trip hc builtP fun ctv doc h' tk keep szs => ?_
    have J : Inv X pins σ H { s with heap := h'.push (PySem.W.kdv_obj "<lambda>" (X.env.qual ++ "<lambda>") params (.expr body) scope (cloFrom X.env.cells scope.names []) dV doc ((X.mg "__name__").getD .none) c' ctv), toks := tk } := I.kept fun b o e => Heap.get?_push_of_some _ (keep b o e)
    exact h h'.objs.size c' doc ((X.mg "__name__").getD .none) ctv H _ J (ExtN.refl H) hT (fun b o _ e => Heap.get?_push_of_some _ (keep b o e)) (fun _ _ n => n) (Heap.get?_push_size _ rfl) (I.hok.fresh szs) (frs_new I szs) hco
end
/-! the names: one parameter, captured names, globals -/
structure LamP (sc scope : Scope) (x : Str) : Prop where
  kind : scope.kind = .function
  co : scope.isCoroutine = false
  gen : scope.isGenerator = false
  nocell : ∀ y ∈ scope.names, y.2 ≠ .cell
  own : ∀ y ∈ scope.names, y.2 = .local → y.1 = x
  par : scope.names.lookup x = some .local
  free : ∀ y ∈ scope.names, y.2 = .free → sc.names.lookup y.1 = some .cell ∨ sc.names.lookup y.1 = some .free
def lamPB (sc scope : Scope) (x : Str) : Bool :=
  decide (scope.kind = .function) && !scope.isCoroutine && !scope.isGenerator && decide (scope.names.lookup x = some .local) && scope.names.all fun y => !decide (y.2 = .cell) && (!decide (y.2 = .local) || decide (y.1 = x)) && (!decide (y.2 = .free) || decide (sc.names.lookup y.1 = some .cell) || decide (sc.names.lookup y.1 = some .free))
theorem lamP_by {sc scope : Scope} {x : Str} (h : lamPB sc scope x = true) : LamP sc scope x := by
  unfold lamPB at h
  simp only [Bool.and_eq_true, Bool.or_eq_true, Bool.not_eq_true', decide_eq_true_eq, decide_eq_false_iff_not, List.all_eq_true] at h
  obtain ⟨⟨⟨⟨q1, q2⟩, q3⟩, q4⟩, q5⟩ := h
  refine ⟨q1, q2, q3, fun y hy => (q5 y hy).1.1, fun y hy e => ?_, q4, fun y hy e => ?_⟩
  · rcases (q5 y hy).1.2 with z | z
    · exact absurd e z
    · exact z
  · rcases (q5 y hy).2 with (z | z) | z
    · exact absurd e z
    · exact .inl z
    · exact .inr z
theorem LamP.has {X : Cx} {scope : Scope} {x : Str} (L : LamP X.env.scope scope x) (ok : X.Ok) : ∀ y ∈ scope.names, y.2 = .free → ∃ c, X.env.cells.lookup y.1 = some c := fun y hy e => by
  rcases L.free y hy e with k | k
  · exact ok.has _ (.inl k)
  · exact ok.has _ (.inr k)
section
variable {X : Cx} {pins : List (Addr × Obj)} {σ : L2.St} {H HZ : Hp} {s s1 : Shared}
theorem start_lam {A : Around} {outer : List Env} {E : XK} {scope : Scope} {x : Str} {v0 : Value} {f c' : Addr} {h₁ : Heap} {tk : Nat} (I : Inv X pins σ H s) (L : LamP X.env.scope scope x) (nx : x ∉ X.N) (e0 : Env0 X.prog X.w X.K X.mg X.base A outer s1 HZ) (hd : A.handled = none)
    (un : Un (frs X.stack) [] H HZ s.heap s1.heap) (hns : h₁.Ns s1.heap.objs.size fun y => ([(x, v0)] : List (Str × Value)).reverse.lookup y) (kp : ∀ b o, s1.heap.get? b = some o → h₁.get? b = some o) :
    Inv (lamCx X A outer s1 HZ E scope f c') [] σ HZ { s1 with heap := h₁, toks := tk } := by
  have captured := L.has I.ok
  have same : ∀ {y c}, (cloFrom X.env.cells scope.names []).lookup y = some c → X.env.cells.lookup y = some c := fun {y c} e => by
    rcases cloFrom_mem (PySem.mem_of_lookup e) with m | ⟨m1, m2⟩
    · cases m
    · obtain ⟨c1, k1⟩ := captured _ m1 rfl
      have k1 : X.env.cells.lookup y = some c1 := k1
      have k2 : c = c1 := by
        rw [m2, k1] <;> rfl
      rw [k2]
      exact k1
  have there : ∀ {y}, scope.names.lookup y = some .free → ∃ c, (cloFrom X.env.cells scope.names []).lookup y = some c := fun {y} hl =>
    mem_lookup (cloFrom_has (cells := X.env.cells) (acc := []) (show (y, NameKind.free) ∈ scope.names from PySem.mem_of_lookup hl))
  have cells : ∀ {c : Addr} {v : Option Value}, H c = none → s.heap.IsCell c v → h₁.IsCell c v := fun {c v} n ⟨o, ho, dt⟩ => by
    obtain ⟨sl, q⟩ := un.any ho n (by simp)
    exact ⟨_, kp _ _ q, dt⟩
  have noEx : ∀ b : Addr, b ∉ (lamCx X A outer s1 HZ E scope f c').ex := fun b z => absurd (show b ∈ ([] : List Addr) from z) (by simp)
  refine ⟨⟨e0.mod, L.kind, rfl, rfl, Nat.le_refl _, fun y z c a b => I.ok.inj y z c (same a) (same b), fun y hy => ?_, fun y c z _ => ?_, fun _ => hd, Around.frames_deeper e0.frames, .inr ⟨rfl, rfl⟩, fun b z => absurd z (noEx b), e0.bs, e0.bsz, fun b _ _ => noEx b,
      fun b z => absurd z (noEx b), e0.funs, e0.frf⟩,
    rfl, e0.bare, Un.kept kp, ⟨_, hns, fun i y v at_ is_ vis => ?_⟩, fun y c e => ?_, e0.hok.fresh (Nat.le_refl _), fun y c e => ?_, fun q hq => absurd (show q ∈ ([] : List (Addr × Obj)) ++ [] from hq) (by simp), e0.hok.kept kp, I.len⟩
  · have hy : scope.names.lookup y = some .cell ∨ scope.names.lookup y = some .free := hy
    rcases hy with k | k
    · exact absurd rfl (L.nocell _ (PySem.mem_of_lookup k))
    · exact there k
  · have z : false = true := z
    cases z
  · have vis : Vis scope y := vis
    have at_ : X.N[i]? = some y := at_
    rcases vis with k | k | k
    · have e := L.own _ (PySem.mem_of_lookup k) rfl
      have e : y = x := e
      rw [e] at at_
      exact absurd (List.mem_of_getElem? at_) nx
    · exact absurd rfl (L.nocell _ (PySem.mem_of_lookup k))
    · obtain ⟨m, hn, hl⟩ := I.loc
      have seen : Vis X.env.scope y := (L.free _ (PySem.mem_of_lookup k) rfl).elim (fun k => .inr (.inl k)) (fun k => .inr (.inr k))
      obtain ⟨w', r, q⟩ := hl i y v at_ is_ seen
      obtain ⟨c2, k2⟩ := there k
      refine ⟨w', r, .inr ⟨.inr k, c2, k2, ?_⟩⟩
      have c1 := same k2
      rcases q with ⟨k', _⟩ | ⟨_, c3, e', z⟩
      · have k' : X.env.scope.names.lookup y = some .local := k'
        rcases L.free _ (PySem.mem_of_lookup k) rfl with a | a <;> rw [show X.env.scope.names.lookup y = _ from a] at k' <;> cases k'
      · rw [c1] at e'
        cases e'
        exact cells (I.freeC y _ c1) z
  · obtain ⟨w', z⟩ := I.cell y c (same e)
    exact ⟨w', cells (I.freeC y c (same e)) z⟩
  · obtain ⟨v, o, ho, dt⟩ := I.cell y c (same e)
    exact un.free c o ho (I.freeC y c (same e)) (by simp)
/-- how its parameters are bound by a call with nothing -/
def BindsY (params : Arguments) (body : Expr) (scope : Scope) (x : Str) : Prop := ∀ (q : Str) (cl : List (Str × Addr)) (T0 : Addr) (doc pm cv ctv : Value), ∃ k, bindArgs (PySem.W.kdv_fn "<lambda>" q params (.expr body) scope cl (.ref T0) doc pm cv ctv) ⟨[], []⟩ = seqItems? (.ref T0) >>= k ∧ ∀ v : Value, k (some #[v]) = pure [(x, v)]
/-- a() in the def that got it -/
theorem act_lam {CXg : CXT} {Eg : XK} {Ng : List Str} {qg : Str} {sg : Scope} {g f c' T0 : Addr} {cdg doc pm ctv v0 : Value} {params : Arguments} {body : Expr} {scope : Scope} {k i : Nat} {a x : Str} {pn : List (Addr × Obj)} {xe : Value → Shared → Prop} {W : WX} {E : XK} {tb : TE} {p1 p2 : Pos}
    (I : Inv X pins σ H s) (L : LamP X.env.scope scope x) (nx : x ∉ X.N) (hf : s.heap.get? f = some (PySem.W.kdv_obj "<lambda>" (X.env.qual ++ "<lambda>") params (.expr body) scope (cloFrom X.env.cells scope.names []) (.ref T0) doc pm c' ctv)) (hfn : H f = none) (hfr : f ∉ frs X.stack)
    (ht : s.heap.get? T0 = some { cls := .type "tuple", data := .seq #[v0] }) (htn : H T0 = none) (htr : T0 ∉ frs X.stack) (hbind : BindsY params body scope x)
    (tk : Takes ((cxOf CXg X.prog X.w X.K X.mg X.base Ng qg sg g cdg X.A X.stack s H Eg).tr pn xe) W) (hW : ∀ cls d σ' H', E cls d H' → W cls d σ' H') (hr : Room (k + 1) (X.A.deeper (envOfC qg sg s.heap.objs.size g cdg)))
    (hbody : ∀ (A : Around) (outer : List Env) (s : Shared) (H : Hp), Room k (A.deeper (lamEnv X scope s.heap.objs.size f c')) → PE (lamCx X A outer s H E scope f c') body tb)
    (hN : Ng[i]? = some a) (hv : Vis sg a) (hd : (a == ("__debug__" : Str)) = false := by decide) (hcd : (a == ("__classdict__" : Str)) = false := by decide) :
    PE ((cxOf CXg X.prog X.w X.K X.mg X.base Ng qg sg g cdg X.A X.stack s H Eg).tr pn xe) (.Call (.Name a p1) [] [] p2)
      (fun σZ HZ Q => σZ[i]? = some (some (.ref f)) ∧ HZ c' = some (CodeO c' (X.env.qual ++ "<lambda>")) ∧ tb σ HZ Q) := by
  constructor
  intro pinsZ sZ σZ HZ Q IZ h
  obtain ⟨hs, hc, read⟩ := h
  refine wpAny_Call_Name_kw (thn ((pe_var (pos := p1) (i := i) hN hv hd hcd).run pinsZ sZ σZ HZ (fun v H1 => v = .ref f ∧ H1 = HZ) IZ ⟨.ref f, hs, rfl, rfl⟩) ?_)
  rintro u s1 ⟨v, H1, J, rv, ev, eH⟩
  subst ev
  rw [eH] at J
  obtain rfl : u = Value.ref f := rv
  have noEx : ∀ b : Addr, b ∉ ([] : List Addr) := fun b z => nomatch z
  have funAt : s1.heap.get? f = some (PySem.W.kdv_obj "<lambda>" (X.env.qual ++ "<lambda>") params (.expr body) scope (cloFrom X.env.cells scope.names []) (.ref T0) doc pm c' ctv) := J.base.keep f _ hf hfn hfr (noEx f)
  have tupAt : s1.heap.get? T0 = some { cls := .type "tuple", data := .seq #[v0] } := J.base.keep T0 _ ht htn htr (noEx T0)
  refine PySem.W.callWith_F0 ⟨_, _, _, _, funAt⟩ ?_
  have un : Un (frs X.stack) [] H HZ s.heap s1.heap := J.base
  obtain ⟨⟨oc, vs, t, hoc, hdc, hvc⟩, _, _⟩ := J.hok c' _ hc
  obtain ⟨kb, b1, b2⟩ := hbind (X.env.qual ++ "<lambda>") (cloFrom X.env.cells scope.names []) T0 doc pm (.ref c') ctv
  have bound : BindsTo s1 (PySem.W.kdv_fn "<lambda>" (X.env.qual ++ "<lambda>") params (.expr body) scope (cloFrom X.env.cells scope.names []) (.ref T0) doc pm (.ref c') ctv) ⟨[], []⟩ [(x, v0)] := BindsTo.of_defaults rfl tupAt rfl b1 (b2 v0)
  have rc : codeAny (model X.prog X.w) (X.A.deeper (envOfC qg sg s.heap.objs.size g cdg)) (.call (.ref f) ⟨[], []⟩) (CR (L2.CX X.prog X.w) (envOfC qg sg s.heap.objs.size g cdg :: X.stack) X.prog X.w HZ s1 Q E) s1 := by
    refine PySem.W.kla_callFunE hr.depth funAt rfl L.co L.gen rfl ⟨c', oc, vs, t, rfl, hoc, hdc, hvc⟩ (bound _ _ _ _ ?_)
    refine wpAny_newFunctionEnv (fun y hy => L.nocell y hy) (fun y hy => ?_) (fun h₁ hns hsb => ⟨J.nolimit.fresh _ hsb, ?_⟩) L.kind
    · rw [List.mem_singleton.mp hy]
      exact L.par
    show codeAny _ _ (.expr body (lamEnv X scope s1.heap.objs.size f c')) _ _
    have kp : ∀ b o, s1.heap.get? b = some o → h₁.get? b = some o := fun b o e => hsb.extBut b o (Nat.ne_of_lt (Heap.lt_size e)) (Heap.get?_push_of_some _ e)
    have JL : Inv (lamCx X (X.A.deeper (envOfC qg sg s.heap.objs.size g cdg)) (envOfC qg sg s.heap.objs.size g cdg :: X.stack) s1 HZ E scope f c') [] σ HZ { s1 with heap := h₁, toks := s1.toks + ([(x, v0)] : List (Str × Value)).length } :=
      start_lam I L nx J.env0 hr.hd un hns kp
    refine PySem.W.kla_codeExpr (wpAny_mono ((hbody _ _ s1 HZ (hr.deeper _)).run [] _ _ HZ Q JL read) (fun v s' hq => ?_) fun e s' hq => hq)
    obtain ⟨w', H', J', rv, q⟩ := hq
    exact ⟨w', H', J'.os, J'.bare, J'.base, J'.hok, rv, q⟩
  have hx : Passes (L2.CX X.prog X.w) ((cxOf CXg X.prog X.w X.K X.mg X.base Ng qg sg g cdg X.A X.stack s H Eg).tr pn xe) E := passes_call tk hW
  refine wpAny_call (codeAny_mono rc ?_)
  rintro (er | fl) s' hq
  · exact hx pinsZ σZ HZ s1 er s' J hq
  · cases fl with
    | ret u => exact J.after hq
    | next => exact False.elim hq
    | brk => exact False.elim hq
    | cont => exact False.elim hq
end
section
variable {X : Cx}
/-- g(lambda x=i: body) -/
theorem pe_lamD {T : List (Addr × Str)} {TT : (XK → Hp → VK → Prop) → Hp → VK → Prop} {x a y : Str} {g c P : Addr} {k kk : Nat} {n : Int} {pg : Arguments} {bg : List Stmt} {sg : Scope} {dV kV doc pm cdv ct oc : Value} {an od : Option Addr} {osl : Array (Option Value)} {Ng : List Str}
    {params : Arguments} {body : Expr} {scope : Scope} {t : XK → TE} {p lpos pos dp : Pos} (hg : Gl X x) (hm : X.mg x = some (.ref g)) (hk : PySem.W.keepIn X.K (.ref g) = true)
    (lk : X.K.lookup g = some ⟨oc, od, .func (PySem.W.fnOf x x pg bg sg dV kV doc pm an cdv ct), osl⟩) (hcg : PySem.W.codeIn X.K cdv x = true) (hb : L2.Binds X.K (PySem.W.fnOf x x pg bg sg dV kV doc pm an cdv ct) [a] []) (Sg : FnScope Ng [a] sg) (hNg : Ng[0]? = some a) (hva : Vis sg a)
    (hG : GivesTo X Ng x sg g cdv bg a (X.env.qual ++ "<lambda>") TT)
    (TB : TabB X.base X.mg c P) (hcode : X.env.code = .ref c) (hmT : (P, X.env.qual ++ "<lambda>") ∈ T) (hu : ∀ p ∈ T, p.1 = P → p.2 = X.env.qual ++ "<lambda>") (hr : Room (k + 2) X.A) (L : LamP X.env.scope scope y) (nx : y ∉ X.N)
    (hds : params.defaults = [.Constant (.int n) kk dp]) (hk0 : params.kw_defaults = []) (hbind : BindsY params body scope y)
    (hbody : ∀ (A : Around) (outer : List Env) (s : Shared) (H : Hp) (E : XK) (f c' : Addr), Room k (A.deeper (lamEnv X scope s.heap.objs.size f c')) → PE (lamCx X A outer s H E scope f c') body (t E))
    (hdb : (x == ("__debug__" : Str)) = false := by decide) (hd : (a == ("__debug__" : Str)) = false := by decide) (hcd : (a == ("__classdict__" : Str)) = false := by decide) :
    PE X (.Call (.Name x p) [.Lambda params body scope lpos] [] pos) (tLam T TT t) := by
  constructor
  intro pins s σ H Q I h
  obtain ⟨hT, h⟩ := h
  refine wpAny_Call_Name_kw (ld_glob I hg hm ?_ hdb)
  refine PySem.W.callWith_K (h₀ := X.base) I.ok.mod.kin hk ?_ (by rfl) (by rfl)
  show wpAny _ _ (spliced ((false, eval (.Lambda params body scope lpos) X.env) :: backTo pos (starEach [] X.env))) _ _ s
  refine Calls.spliced_cons (PySem.W.kdv_lam (by rw [hds]; rfl) hk0 ?_)
  rw [hds]
  refine PySem.W.kdv_all1 (thn ((pe_int (X := X)).run pins s σ H (fun v H1 => v = .int n ∧ H1 = H) I ⟨rfl, rfl⟩) ?_)
  rintro v0 s1 ⟨xv, H1, I1, rx, e1, e2⟩
  rw [e2] at I1
  refine PySem.W.kdv_all0 ?_
  rw [makeFunction_eq]
  simp only [List.zip_nil_right, List.filterMap_nil, List.isEmpty_nil, List.isEmpty_cons, if_true, pure_bind, Bool.false_eq_true, if_false]
  refine wpAny_bind (wpAny_newTextTuple ?_)
  have I2 : Inv X pins σ H { s1 with heap := s1.heap.push { cls := .type "tuple", data := .seq #[v0] } } := I1.kept fun b o e => Heap.get?_push_of_some _ e
  have tupAt : (s1.heap.push { cls := .type "tuple", data := .seq #[v0] }).get? s1.heap.objs.size = some { cls := .type "tuple", data := .seq #[v0] } := Heap.get?_push_size _ rfl
  have noT : H s1.heap.objs.size = none := I1.hok.fresh (Nat.le_refl _)
  have frT : s1.heap.objs.size ∉ frs X.stack := frs_new I1 (Nat.le_refl _)
  refine tail_make I2 TB hcode hmT hu hT (L.has I.ok) fun f c' doc' pm' ctv H1 s' I3 eN T1 keep hold hf hfn hfr hco => ?_
  have neP : s1.heap.objs.size ≠ P := fun z => by
    obtain ⟨ps, hP, _⟩ := hT _ hmT
    have hP : H P = some (.tbl ps) := hP
    rw [← z, noT] at hP
    cases hP
  have tupAt' := keep _ _ neP tupAt
  have noT' := hold s1.heap.objs.size (by rw [Heap.size_push]; omega) noT
  refine Calls.spliced_nil ⟨I3.kIn, ?_⟩
  have rc : codeAny (model X.prog X.w) X.A (.call (.ref g) ⟨[.ref f], []⟩) (CR C8.CX0 X.stack X.prog X.w H1 s' Q C8.E0) s' := by
    refine run_ofS (N := Ng) (ps := [a]) (us := [.ref f]) (vs := [.ref f]) lk hcg Sg hr I3.env0 (hb s' [.ref f] I3.kIn rfl) (.cons rfl .nil) rfl fun hr' => ?_
    obtain ⟨t', ht', hq'⟩ := hG f c' s' H1 Q (fun E H' Q' => t E σ H' Q') (fun W pn xe E p1 p2 tk hW => act_lam (i := 0) I3 L nx hf hfn hfr tupAt' noT' frT hbind tk hW hr' (fun A outer s H hr2 => hbody A outer s H E f c' hr2) hNg hva hd hcd) hco (h H1 eN T1)
    exact ⟨t', ht'.nox, hq'⟩
  refine wpAny_call (codeAny_mono rc ?_)
  rintro (er | fl) s2 hq
  · exact (show False from hq).elim
  · cases fl with
    | ret u => exact I3.after hq
    | next => exact False.elim hq
    | brk => exact False.elim hq
    | cont => exact False.elim hq
end
end LamY
set_option Elab.async false
set_option linter.all false
set_option maxRecDepth 100000
set_option maxHeartbeats 4000000
/-! a try with clauses of several kinds -/
namespace L2
open PySem PySem.Spec PyProof.Rows
theorem flying_more {B h h' : Heap} {l : List Env} {a : Addr} {Z : Obj → Prop} (fl : HandSPX.FlyingZ B l a Z h) (k : ∀ b o, h.get? b = some o → h'.get? b = some o) : HandSPX.FlyingZ B l a Z h' := by
  obtain ⟨x1, x2, x3, oe, vs, T, oT, ts, y1, y2, y3, y4, y5, y6, y7, y8, y9⟩ := fl
  exact ⟨fun b o e => k b o (x1 b o e), x2, Heap.FunFrames.of_keeps (fun b o e _ => ⟨o, k b o e, rfl⟩) x3, oe, vs, T, oT, ts, k _ _ y1, y2, y3, y4, y5, y6, k _ _ y7, y8, y9⟩
theorem upTo_more {h h1 h2 : Heap} (u : h.UpToSlots h1) (k : ∀ b o, h1.get? b = some o → h2.get? b = some o) : h.UpToSlots h2 := fun b o e nd => by
  obtain ⟨sl, q⟩ := u b o e nd
  exact ⟨sl, k _ _ q⟩
/-- an error that has come to the try of X: sI is the state without it -/
structure Air (X : Cx) (pins : List (Addr × Obj)) (σ : St) (H : Hp) (cls : Value) (d : Option Addr) (a : Addr) (B : Heap) (sI s3 : Shared) : Prop where
  J : Inv X pins σ H sI
  nb : ∀ b o, sI.heap.get? b = some o → b ∉ frs X.stack → B.get? b = some o
  up : sI.heap.UpToSlots s3.heap
  fl : HandSPX.FlyingZ B (X.env :: X.outer) a (Zc cls d) s3.heap
  na : H a = none
  os : s3.os = sI.os
  ag : AllBare s3.gens
section
variable {X : Cx} {pins : List (Addr × Obj)} {σ : St} {H : Hp} {cls : Value} {d : Option Addr} {a : Addr} {B : Heap} {sI s3 : Shared}
theorem Air.inv (x : Air X pins σ H cls d a B sI s3) : Inv X pins σ H s3 := x.J.landed x.nb x.fl.1 x.up x.os x.ag
theorem Air.more (x : Air X pins σ H cls d a B sI s3) {h' : Heap} {tk : Nat} (k : ∀ b o, s3.heap.get? b = some o → h'.get? b = some o) : Air X pins σ H cls d a B sI { s3 with heap := h', toks := tk } :=
  ⟨x.J, x.nb, upTo_more x.up k, flying_more x.fl k, x.na, x.os, x.ag⟩
theorem Air.place (x : Air X pins σ H cls d a B sI s3) (hf : X.env.frame = some X.env.locals) : a ≠ X.env.locals ∧ a ∉ X.fs := by
  obtain ⟨oe, vs, he, _, hd⟩ := x.fl.there
  have nfr : a ∉ frs (X.env :: X.outer) := fun hm => by
    obtain ⟨_, o', e', hnf⟩ := x.fl.2.2.1.mem hm
    have q : oe = o' := Option.some.inj (he.symm.trans e')
    exact hnf vs (q ▸ hd)
  refine ⟨fun z => nfr ?_, fun hm => nfr ?_⟩
  · exact List.mem_filterMap.mpr ⟨X.env, List.mem_cons_self, by rw [hf, z]⟩
  · obtain ⟨e, he', q⟩ := List.mem_filterMap.mp hm
    exact List.mem_filterMap.mpr ⟨e, List.mem_cons_of_mem _ he', q⟩
theorem Air.suite (x : Air X pins σ H cls d a B sI s3) (hf : X.env.frame = some X.env.locals) : ∃ oe, s3.heap.get? a = some oe ∧ Zc cls d oe ∧ (∃ vs, oe.data = .fields vs) ∧ Inv (X.suite a ((a, oe) :: (X.pn ++ pins))) [] σ H s3 := by
  obtain ⟨oe, vs, he, hz, hd⟩ := x.fl.there
  obtain ⟨nL, nF⟩ := x.place hf
  exact ⟨oe, he, hz, ⟨vs, hd⟩, x.inv.suite he hd x.na nL nF⟩
theorem Air.again {A : Around} {E : Value → Shared → Prop} {Q : Unit → Shared → Prop} (x : Air X pins σ H cls d a B sI s3) (q : ∀ h4, Air X pins σ H cls d a B sI { s3 with heap := h4 } → Q () { s3 with heap := h4 }) :
    wpAny (model X.prog X.w) A (setFlight (.ref a) none) Q E s3 :=
  HandSPX.lands_againZ x.fl fun h4 fl4 up4 => q h4 ⟨x.J, x.nb, x.up.trans up4, fl4, x.na, x.os, x.ag⟩
/-- how the test of a clause comes out: for an error of the class cls it is b -/
structure TestOk (X : Cx) (t : Expr) (ex : Value → Bool → Prop) : Prop where
  run : ∀ (a : Addr) (oe : Obj) (pn : List (Addr × Obj)) (σ : St) (H : Hp) (s : Shared) (b : Bool) (Q : Value → Shared → Prop) (E : Value → Shared → Prop),
    Inv (X.suite a ((a, oe) :: pn)) [] σ H s → s.heap.get? a = some oe → ex oe.cls b →
    (∀ (h' : Heap) (c : Value), (∀ q o, s.heap.get? q = some o → h'.get? q = some o) → PySem.W.Looks (model X.prog X.w) h' (excMatches (.ref a) c) b → Q c { s with heap := h' }) →
    wpAny (model X.prog X.w) (X.A.mark (some (.ref a))) (eval t X.env) Q E s
theorem suite_name {x : Str} {c : Value} {np : Pos} {a : Addr} {oe : Obj} {pn : List (Addr × Obj)} {σ : St} {H : Hp} {s : Shared} {Q : Value → Shared → Prop} {E : Value → Shared → Prop} (hc : Names X x c) (I : Inv (X.suite a ((a, oe) :: pn)) [] σ H s) (q : Q c s) :
    wpAny (model X.prog X.w) (X.A.mark (some (.ref a))) (eval (.Name x np) X.env) Q E s := by
  obtain ⟨hg, hdbg, hm | ⟨hm, hv, hnn⟩⟩ := hc
  · exact ld_glob (X := X.suite a ((a, oe) :: pn)) I hg hm q hdbg
  · exact ld_blt (X := X.suite a ((a, oe) :: pn)) I hg hm hv q hnn hdbg
theorem looks_cls {h : Heap} {oe : Obj} (he : h.get? a = some oe) : PySem.W.Looks (model X.prog X.w) h (typeOf (.ref a)) oe.cls := fun A Q E s k q => wpAny_typeOf_ref (k _ _ he) q
theorem test_one {x : Str} {c : Value} {np : Pos} (hc : Names X x c) : TestOk X (.Name x np) (fun cls b => PySem.W.exmOne X.K cls c = some b) :=
  ⟨fun a oe pn σ H s b Q E I he ex q => suite_name hc I (q s.heap c (fun _ _ z => z) (PySem.W.exm_one I.kIn (looks_cls he) ex))⟩
/-- a clause as it is met; wh: what it wishes, by what the clauses behind it wish -/
def HdRun (X : Cx) (h : ExceptHandler) (wh : Ends → WX → WX) : Prop :=
  ∀ (pins : List (Addr × Obj)) (D : Ends) (a : Addr) (B : Heap) (sI s3 : Shared) (σ : St) (H : Hp) (cls : Value) (d : Option Addr) (rest : List ExceptHandler) (Wr : WX), Air X pins σ H cls d a B sI s3 →
    (∀ s4, Air X pins σ H cls d a B sI s4 → Wr cls d σ H → wpAny (model X.prog X.w) X.A (handleBy (.ref a) X.env rest) (SP X pins D) X.xe s4) → wh D Wr cls d σ H →
    wpAny (model X.prog X.w) X.A (handleBy (.ref a) X.env (h :: rest)) (SP X pins D) X.xe s3
inductive HdsRun (X : Cx) : List ExceptHandler → (Ends → WX → WX) → Prop
  | nil : HdsRun X [] (fun _ W => W)
  | cons {h : ExceptHandler} {hs : List ExceptHandler} {wh wr : Ends → WX → WX} (r : HdRun X h wh) (rs : HdsRun X hs wr) : HdsRun X (h :: hs) (fun D W => wh D (wr D W))
end
end L2
namespace L2
open PySem PySem.Spec PyProof.Rows
section
variable {X : Cx} {t : Expr} {ex : Value → Bool → Prop} {n : Str} {i : Nat} {suite body : List Stmt} {b₀ : Stmt} {pos pos' : Pos} {ts : Addr → Value → Option Addr → TS} {tb : WX → TS} {Wout : WX} {hds : List ExceptHandler} {wl : Ends → WX → WX}
def wTest (ex : Value → Bool → Prop) (ts : Addr → Value → Option Addr → TS) (D : Ends) (Wr : WX) : WX := fun cls d σ H => ∃ b, ex cls b ∧ (b = true → ∀ a, H a = none → ts a cls d D σ H) ∧ (b = false → Wr cls d σ H)
/-- except T: suite -/
theorem hd_only (hf : X.env.frame = some X.env.locals) (T : TestOk X t ex)
    (hsu : ∀ (a : Addr) (oe : Obj) (cls : Value) (d : Option Addr) (pn : List (Addr × Obj)), Zc cls d oe → (∃ vs, oe.data = .fields vs) → PSs (X.suite a ((a, oe) :: pn)) (b₀ :: suite) (ts a cls d)) :
    HdRun X (.ExceptHandler (some t) none (b₀ :: suite) pos') (wTest ex ts) := by
  intro pins D a B sI s3 σ H cls d rest Wr x hrest hw
  obtain ⟨b, hb, hyes, hno⟩ := hw
  obtain ⟨oe, he, hz, hd, S⟩ := x.suite hf
  refine PySem.W.exc_clause (T.run a oe (X.pn ++ pins) σ H s3 b _ _ S he (by rw [hz.1]; exact hb) fun h' c k L => ⟨b, L, ?_⟩)
  have x' := x.more (tk := s3.toks) k
  cases b with
  | false => exact hrest _ x' (hno rfl)
  | true =>
    refine x'.again fun h4 x4 => ?_
    obtain ⟨oe4, he4, hz4, hd4, S4⟩ := x4.suite hf
    refine wpAny_mono ((hsu a oe4 cls d (X.pn ++ pins) hz4 hd4).run [] _ _ H _ S4 (hyes rfl a x.na)) (fun f s6 hsp => ?_) (fun _ _ z => False.elim z)
    have ok := x.J.ok
    cases f with
    | next =>
      obtain ⟨σ6, H6, S6, q6⟩ := hsp
      exact ⟨σ6, H6, S6.unsuite ok, q6⟩
    | brk =>
      obtain ⟨σ6, H6, S6, q6⟩ := hsp
      exact ⟨σ6, H6, S6.unsuite ok, q6⟩
    | cont =>
      obtain ⟨σ6, H6, S6, q6⟩ := hsp
      exact ⟨σ6, H6, S6.unsuite ok, q6⟩
    | ret u =>
      obtain ⟨v6, σ6, H6, S6, r6, q6⟩ := hsp
      exact ⟨v6, σ6, H6, S6.unsuite ok, r6, q6⟩
def endsAs (i : Nat) (D : Ends) : Ends := { nx := fun σ' H' => D.nx (σ'.set i none) H', rt := D.rt, bk := fun σ' H' => D.bk (σ'.set i none) H', ct := fun σ' H' => D.ct (σ'.set i none) H' }
def wTestAs (ex : Value → Bool → Prop) (i : Nat) (ts : Addr → Value → Option Addr → TS) (D : Ends) (Wr : WX) : WX := fun cls d σ H =>
  ∃ b, ex cls b ∧ (b = true → ∀ a, H a = none → ts a cls d (endsAs i D) (σ.set i (some (.ref a))) H) ∧ (b = false → Wr cls d σ H)
/-- except T as n: suite -/
theorem hd_as (hf : X.env.frame = some X.env.locals) (hN : X.N.Nodup) (hi : X.N[i]? = some n) (hln : X.env.kindOf n = some .local) (T : TestOk X t ex)
    (hsu : ∀ (a : Addr) (oe : Obj) (cls : Value) (d : Option Addr) (pn : List (Addr × Obj)), Zc cls d oe → (∃ vs, oe.data = .fields vs) → PSs (X.suite a ((a, oe) :: pn)) (b₀ :: suite) (ts a cls d)) :
    HdRun X (.ExceptHandler (some t) (some n) (b₀ :: suite) pos') (wTestAs ex i ts) := by
  intro pins D a B sI s3 σ H cls d rest Wr x hrest hw
  obtain ⟨b, hb, hyes, hno⟩ := hw
  obtain ⟨oe, he, hz, hd, S⟩ := x.suite hf
  refine PySem.W.exc_clause_as (T.run a oe (X.pn ++ pins) σ H s3 b _ _ S he (by rw [hz.1]; exact hb) fun h' c k L => ⟨b, L, ?_⟩)
  have x' := x.more (tk := s3.toks) k
  cases b with
  | false => exact hrest _ x' (hno rfl)
  | true =>
    refine x'.again fun h4 x4 => ?_
    obtain ⟨oe4, he4, hz4, hd4, S4⟩ := x4.suite hf
    refine store_ok (X := X.suite a ((a, oe4) :: (X.pn ++ pins))) (v := .ref a) S4 hN hi (.inl hln) rfl (fun s5 S5 => ?_) (.inr hln)
    have ok := x.J.ok
    refine wpAny_mono ((hsu a oe4 cls d (X.pn ++ pins) hz4 hd4).run [] s5 _ H _ S5 (hyes rfl a x.na)) (fun f s6 hsp => ?_) (fun _ _ z => False.elim z)
    have leave : ∀ {σ6 : St} {H6 : Hp} {Q : Shared → Prop}, Inv (X.suite a ((a, oe4) :: (X.pn ++ pins))) [] σ6 H6 s6 → (∀ s7, Inv X pins (σ6.set i none) H6 s7 → Q s7) →
        wpAny (model X.prog X.w) X.A (do bindName X.env n .none; unbindBehindTheSuite X.env n pos') (fun _ s7 => Q s7) X.xe s6 := fun {σ6 H6 Q} S6 hq => gone_ok (S6.unsuite ok) hN hi hln hq
    cases f with
    | next =>
      obtain ⟨σ6, H6, S6, q6⟩ := hsp
      exact leave S6 fun s7 J7 => ⟨_, H6, J7, q6⟩
    | brk =>
      obtain ⟨σ6, H6, S6, q6⟩ := hsp
      exact leave S6 fun s7 J7 => ⟨_, H6, J7, q6⟩
    | cont =>
      obtain ⟨σ6, H6, S6, q6⟩ := hsp
      exact leave S6 fun s7 J7 => ⟨_, H6, J7, q6⟩
    | ret u =>
      obtain ⟨v6, σ6, H6, S6, r6, q6⟩ := hsp
      exact leave S6 fun s7 J7 => ⟨v6, _, H6, J7, r6, q6⟩
/-- no clause takes it: on it goes -/
theorem air_on {pins : List (Addr × Obj)} {σ : St} {H : Hp} {cls : Value} {d : Option Addr} {a : Addr} {B : Heap} {sI s3 : Shared} {D : Ends} (hs : X.stack = X.env :: X.outer) (hf : X.env.frame = some X.env.locals) (tk : Takes X Wout)
    (x : Air X pins σ H cls d a B sI s3) (w : Wout cls d σ H) : wpAny (model X.prog X.w) X.A (handleBy (.ref a) X.env []) (SP X pins D) X.xe s3 := by
  refine wpAny_handleBy_nil ?_
  obtain ⟨_, _, _, oe, vs, T, oT, ts', he, hz, hd, h1, _⟩ := id x.fl
  have last : wpAny (model X.prog X.w) X.A (setFlight (.ref a) X.env.frame) (fun _ s4 => wpAny (model X.prog X.w) X.A (throw (.ref a) : Sem Flow) (SP X pins D) X.xe s4) X.xe s3 := by
    rw [hf]
    refine HandSPX.setFlight_upZ x.fl fun h4 held up4 => wpAny_throw (tk _ _ ?_)
    exact ⟨a, B, sI, pins, σ, H, cls, d, rfl, x.J, x.nb, x.up.trans up4, .inr (.inr (by rw [hs]; exact held)), x.na, x.os, x.ag, w⟩
  unfold PySem.passOn
  refine wpAny_bind (wpAny_field he hd h1 ?_)
  rw [if_neg (show ¬ ((Value.ref T == Value.none) = true) by simp)]
  first
    | exact wpAny_bind (wpAny_pure (wpAny_bind last))
    | exact wpAny_bind last
theorem hds_meet (hs : X.stack = X.env :: X.outer) (hf : X.env.frame = some X.env.locals) (tk : Takes X Wout) (r : HdsRun X hds wl) :
    ∀ {pins : List (Addr × Obj)} {σ : St} {H : Hp} {cls : Value} {d : Option Addr} {a : Addr} {B : Heap} {sI s3 : Shared} {D : Ends}, Air X pins σ H cls d a B sI s3 → wl D Wout cls d σ H →
      wpAny (model X.prog X.w) X.A (handleBy (.ref a) X.env hds) (SP X pins D) X.xe s3 := by
  induction r with
  | nil => exact fun x w => air_on hs hf tk x w
  | cons h1 rs ih => exact fun x w => h1 _ _ _ _ _ _ _ _ _ _ _ _ x (fun s4 x4 w4 => ih x4 w4) w
/-- try: body, clauses of any kinds -/
theorem ps_try_any (hs : X.stack = X.env :: X.outer) (hf : X.env.frame = some X.env.locals) (tk : Takes X Wout)
    (hb : ∀ (W : WX) (pn : List (Addr × Obj)) (xe : Value → Shared → Prop), Takes (X.tr pn xe) W → PassesOwn (model X.prog X.w) X.A X.env xe → PSs (X.tr pn xe) body (tb W))
    {h₀ : ExceptHandler} (r : HdsRun X (h₀ :: hds) wl) : PS X (.Try body (h₀ :: hds) [] [] pos) (fun D σ H => tb (wl D Wout) D σ H) := by
  refine ⟨fun pins s σ H D I h => ?_⟩
  have ok := I.ok
  have hfr : X.A.frames = some (X.env :: X.outer) := ok.frames.trans (congrArg some hs)
  refine wpAny_Try_except ?_
  refine wpAny_mono ((hb (wl D Wout) (X.pn ++ pins) _ (fun u s' met => ?_) PassesOwn.looking).run [] s σ H D (I.toTry _) h) (fun f s1 hsp => ?_) (fun e s1 he => he)
  · obtain ⟨a, B, sI, pins', σ', H', cls, d, rfl, J', nb, up, sky, na, os, ag, w⟩ := met
    have J : Inv X pins σ' H' sI := J'.ofTry ok
    have sky' : Sky B (X.env :: X.outer) a (Zc cls d) X.env.locals s'.heap := hs ▸ sky
    show wpAny (model X.prog X.w) X.A (noteFrame (.ref a) X.env) _ _ _
    refine Sky.land Zc.steady hfr hf sky' fun h3 fl3 up3 => ?_
    exact hds_meet hs hf tk r (s3 := { s' with heap := h3 }) ⟨J, nb, up.trans up3, fl3, na, os, ag⟩ w
  · cases f with
    | next =>
      obtain ⟨σ', H', J', q⟩ := hsp
      exact wpAny_execs_nil ⟨σ', H', J'.ofTry ok, q⟩
    | brk =>
      obtain ⟨σ', H', J', q⟩ := hsp
      exact ⟨σ', H', J'.ofTry ok, q⟩
    | cont =>
      obtain ⟨σ', H', J', q⟩ := hsp
      exact ⟨σ', H', J'.ofTry ok, q⟩
    | ret u =>
      obtain ⟨v, σ', H', J', rv, q⟩ := hsp
      exact ⟨v, σ', H', J'.ofTry ok, rv, q⟩
end
end L2
set_option Elab.async false
set_option linter.all false
set_option maxRecDepth 100000
set_option maxHeartbeats 4000000
/-! own exceptions with an __init__ that keeps one or three values, over any built-in base -/
namespace PySem
namespace OwnX
open PySem.W PySem.Calls PyProof.Rows PySem.HandSPX Builtin Builtin.ObjectAttr
structure OwnTxt (K : Frag) (C fI : Addr) (bmB : List Value) (newId : String) : Prop where
  cls : ∃ nm q N bs bm sn sub ab col dd k0 k1 k2 k3 k5, K.lookup C = some (excClassObj nm q C N bs bm true sn sub ab col dd k0 k1 k2 k3 k5 newId) ∧ excTail bmB bm = true
  sa : findIn K (.ref C) "__setattr__" = some (some (.builtin "object.__setattr__"))
  ga : findIn K (.ref C) "__getattribute__" = some (some (.builtin "BaseException.__getattribute__"))
  gg : findIn K (.ref C) "__getattr__" = some none
  iC : findIn K (.ref C) "__init__" = some (some (.ref fI))
  tC : typeIn K (.ref fI) = some (.type "function")
  kC : keepIn K (.ref C) = true
  exC : subIn K (.ref C) (.type "BaseException") = some true
  tyC : typeIn K (.ref C) = some (.type "type")
  hdC : hasDictIn K C = true
section
variable {prog : Program} {w : World} {A : Around} {E : Value → Shared → Prop} {R : Result → Shared → Prop} {K : Frag} {C fI : Addr} {bmB : List Value} {newId : String}
theorem OwnTxt.over (T : OwnTxt K C fI bmB newId) : excOver K C bmB = true := by
  obtain ⟨nm, q, N, bs, bm, sn, sub, ab, col, dd, k0, k1, k2, k3, k5, hC, hbm⟩ := T.cls
  have e : clsIn K C = some { name := nm, bases := bs, mro := .ref C :: bm, ns := N, qualname := q, hasDict := true, slotNames := sn, subclasses := sub, abstract := ab, collection := col, hasDel := false } := by
    unfold clsIn
    rw [hC]
    all_goals rfl
  unfold excOver
  rw [e]
  show ((C == C) && excTail bmB bm) = true
  rw [hbm, beq_self_eq_true]
  rfl
theorem taker_none {name : Str} (ha : findIn K (.ref C) name = some none) : takerIn K C name = some none := by
  unfold takerIn
  rw [ha]
  rfl
variable {hp : Heap} {g : Array GenState} {d : Drawn} {t : Nat} {os : OsState} {B initId : String}
/-- the first value kept: the error's own dict is laid -/
theorem keep_first (SF : StoreFacts B bmB "object.__setattr__" "object") (T : OwnTxt K C fI bmB newId) {name : Str} {tk : Tok} {v : Value} {x : Addr} {fv : Array Value} (X : K.In hp)
    (hx : hp.get? x = some { cls := .ref C, data := .fields fv }) (ha : findIn K (.ref C) name = some none)
    (hq : ∀ h' tk' dx, (∀ b o, b ≠ x → hp.get? b = some o → h'.get? b = some o) → hp.objs.size ≤ dx → dx ≠ x → h'.get? x = some { cls := .ref C, dict := some dx, data := .fields fv } →
      h'.Ns1 dx (fun y => if y = name then some v else none) → R (.ok (.ret .none)) ⟨h', g, d, tk', os⟩) :
    codeAny (model prog w) A (.call (.builtin "object.__setattr__") ⟨[.ref x, .str name tk, v], []⟩) R ⟨hp, g, d, t, os⟩ := by
  obtain ⟨nm, q, N, bs, bm, sn, sub, ab, col, dd, k0, k1, k2, k3, k5, hC, hbm⟩ := T.cls
  have ec : clsIn K C = some { name := nm, bases := bs, mro := .ref C :: bm, ns := N, qualname := q, hasDict := true, slotNames := sn, subclasses := sub, abstract := ab, collection := col, hasDel := false } := by
    unfold clsIn
    rw [hC]
    all_goals rfl
  have hxs : x ≠ hp.objs.size := Nat.ne_of_lt (Heap.lt_size hx)
  refine osa_openX (od := none) SF X ⟨hx, rfl, rfl, trivial⟩ T.over (taker_none ha) fun b => ?_
  have LC := looks_clsIn (M := model prog w) X ec
  show wpAny _ _ (storeInOwnDict _ _ _ _ _ _) _ _ _
  unfold storeInOwnDict ownDictForStores
  repeat (first
    | with_reducible refine HandSPX.store_in_new ?_ ?_
    | with_reducible refine wpAny_loadPart_at hx ?_
    | with_reducible refine LC.at ?_
    | wp_step)
  · exact ⟨_, #[], _, (Heap.get?_update_ne _ _ _ _ (Ne.symm hxs)).trans (Heap.get?_push_at rfl rfl), rfl, fun e he => absurd he (by simp), fun _ => rfl⟩
  · intro h' tk' hn' hs
    have hy : (hp.push { cls := .type "dict", data := .dict #[] }).get? x = some { cls := .ref C, data := .fields fv } := Heap.get?_push_of_some _ hx
    refine hq h' tk' hp.objs.size (fun b o hb ho => ?_) (Nat.le_refl _) (Ne.symm hxs) ?_ hn'
    · exact (hs.2 b (Nat.ne_of_lt (Heap.lt_size ho))).trans ((Heap.get?_update_ne _ _ _ _ hb).trans (Heap.get?_push_of_some _ ho))
    · exact (hs.2 x hxs).trans (Heap.get?_update_self _ hy rfl)
/-- a further value -/
theorem keep_more (SF : StoreFacts B bmB "object.__setattr__" "object") (T : OwnTxt K C fI bmB newId) {name : Str} {tk : Tok} {v : Value} {x dx : Addr} {fv : Array Value} {m0 : Str → Option Value} {nl : List Str} (X : K.In hp)
    (hx : hp.get? x = some { cls := .ref C, dict := some dx, data := .fields fv }) (hns : hp.Ns1 dx m0) (hw : Within m0 nl) (hz : nl.length ≤ 1000) (ha : findIn K (.ref C) name = some none)
    (hq : ∀ h' tk', (∀ b o, b ≠ dx → hp.get? b = some o → h'.get? b = some o) → h'.Ns1 dx (fun y => if y = name then some v else m0 y) → R (.ok (.ret .none)) ⟨h', g, d, tk', os⟩) :
    codeAny (model prog w) A (.call (.builtin "object.__setattr__") ⟨[.ref x, .str name tk, v], []⟩) R ⟨hp, g, d, t, os⟩ := by
  obtain ⟨nm, q, N, bs, bm, sn, sub, ab, col, dd, k0, k1, k2, k3, k5, hC, hbm⟩ := T.cls
  have ec : clsIn K C = some { name := nm, bases := bs, mro := .ref C :: bm, ns := N, qualname := q, hasDict := true, slotNames := sn, subclasses := sub, abstract := ab, collection := col, hasDel := false } := by
    unfold clsIn
    rw [hC]
    all_goals rfl
  obtain ⟨oD, esD, epD, hoD, hdD, _⟩ := hns.count hw
  refine osa_openX (od := some oD) SF X ⟨hx, rfl, rfl, hoD⟩ T.over (taker_none ha) fun b => ?_
  have LC := looks_clsIn (M := model prog w) X ec
  show wpAny _ _ (storeInOwnDict _ _ _ _ _ _) _ _ _
  unfold storeInOwnDict ownDictForStores
  repeat (first
    | with_reducible refine OEX.store_in_old hns hw hz ?_
    | with_reducible refine wpAny_loadPart_at hx ?_
    | with_reducible refine LC.at ?_
    | wp_step)
  intro h' tk' hn' hs
  exact hq h' tk' (fun b o hb ho => (hs.2 b hb).trans ho) hn'
end
end OwnX
end PySem
set_option Elab.async false
set_option linter.all false
set_option maxRecDepth 100000
set_option maxHeartbeats 4000000
/-! the call of an own error class with an __init__ of its own, where only a base further up has a __new__ (KeyError has none) -/
namespace PySem
namespace OwnX
open PySem.W PySem.Calls PyProof.Rows PySem.HandSPX Builtin Builtin.ObjectAttr
/-- what the classes behind the own one say -/
structure Behind (B : String) (bm : List Value) : Prop where
  has : bm.contains (.type B) = true
  noA : bm.contains (.type "AttributeError") = false
  noN : bm.contains (.type "NameError") = false
section
variable {prog : Program} {w : World} {A : Around} {E : Value → Shared → Prop} {R : Result → Shared → Prop} {hp : Heap} {g : Array GenState} {d : Drawn} {t : Nat} {os : OsState}
variable {nm q : Str} {C N fI : Addr} {bs bm bmF rest : List Value} {hdct : Bool} {sn : List Str} {sub : List Value} {ab : Bool} {col : Option Bool} {dd : Option Addr} {k0 k1 k2 k3 k5 : Option Value} {B newId initId : String}
theorem mk_check {M : Model} {Q : Unit → Shared → Prop} (F : ExcBaseFacts B newId initId bmF) (b : Behind B bm)
    (hC : hp.get? C = some (excClassObj nm q C N bs bm hdct sn sub ab col dd k0 k1 k2 k3 k5 newId)) (done : Q () ⟨hp, g, d, t, os⟩) :
    wpAny M A (checkBuiltinCall newId ⟨.ref C :: rest, []⟩) Q E ⟨hp, g, d, t, os⟩ := by
  have inB : (Value.ref C :: bm).contains (.type B) = true := by
    rw [List.contains_cons, b.has]
    exact Bool.or_true _
  have star := F.noStar
  simp only [checkBuiltinCall, F.newKind,
    F.newSplit, F.newRow]
  repeat (first
    | refine wpAny_loadPart_at hC ?_
    | (refine wpAny_isSubtype_exc hC ?_
       rw [inB])
    | refine wpAny_staticBase_exc hC ?_
    | refine wpAny_madeBy_exc hC ?_
    | simp only [bne_self_eq_false, if_false,
        Bool.false_eq_true]
    | wp_step)
  exact done
theorem mk_new (F : ExcBaseFacts B newId initId bmF) (b : Behind B bm) (hC : hp.get? C = some (excClassObj nm q C N bs bm hdct sn sub ab col dd k0 k1 k2 k3 k5 newId))
    (few : rest.length ≤ sizeLine) (done : R (.ok (.ret (.ref (hp.objs.size + 1)))) ⟨(hp.push (kdv_tup rest)).push (excO C hp.objs.size), g, d, t, os⟩) :
    codeAny (model prog w) A (.builtin newId ⟨.ref C :: rest, []⟩) R ⟨hp, g, d, t, os⟩ := by
  have ends := F.ends
  have inB : (Value.ref C :: bm).contains (.type B) = true := by
    rw [List.contains_cons, b.has]
    exact Bool.or_true _
  have inA : (Value.ref C :: bm).contains (.type "AttributeError") = false := by
    rw [List.contains_cons, b.noA]
    rfl
  have inN : (Value.ref C :: bm).contains (.type "NameError") = false := by
    rw [List.contains_cons, b.noN]
    rfl
  refine codeAny_builtinAt F.entry ?_
  unfold Builtin.«BaseException.__new__»
  refine wpAt_bind ?_
  show wpAt _ _ _ (stack >>= _) _ _ _
  refine wpAt_bind (wpAt_stack fun _ _ => wpAt_of_wpAny ?_)
  wp_walk
  refine wpAt_of_wpAny ?_
  rw [F.owner]
  repeat (first
    | with_reducible refine wpAny_madeHere_exc F.canon hC ?_
    | with_reducible refine wpAny_loadPart_at hC ?_
    | (with_reducible refine wpAny_isSubtype_exc hC ?_
       first
         | rw [inB]
         | rw [inA]
         | rw [inN])
    | wp_step)
  show R _ _
  rw [Heap.size_push]
  exact done
theorem mk_body (F : ExcBaseFacts B newId initId bmF) (b : Behind B bm) {Q : Fin → Shared → Prop} (hC : hp.get? C = some (excClassObj nm q C N bs bm hdct sn sub ab col dd k0 k1 k2 k3 k5 newId))
    (li : Looks (model prog w) hp (typeLookup (.ref C) "__init__") (some (.ref fI))) (lb : ∀ x, Looks (model prog w) hp (bindSpecial (.ref fI) x) (.ref fI, [x])) (few : rest.length ≤ sizeLine)
    (done : codeAny (model prog w) A (.call (.ref fI) ⟨.ref (hp.objs.size + 1) :: rest, []⟩)
      (fun r s' => match r with
        | .ok (.ret v) => v = .none ∧ Q (.done (.ret (.ref (hp.objs.size + 1)))) s'
        | .ok _ => False
        | .error e => E e s') ⟨(hp.push (kdv_tup rest)).push (excO C hp.objs.size), g, d, t, os⟩) :
    wpAny (model prog w) A (Builtin.«type.__call__» ⟨.ref C :: rest, []⟩) Q E ⟨hp, g, d, t, os⟩ := by
  repeat (first
    | with_reducible refine wpAny_loadPart_at hC ?_
    | with_reducible refine wpAny_madeBy_exc hC ?_
    | wp_step)
  refine codeAny_call_builtin_code (Code.quiet_builtin _ F.quiet) (mk_check F b hC ?_)
  refine mk_new F b hC few ?_
  show wpAny _ _ _ _ _ _
  have old : ∀ b o, hp.get? b = some o → ((hp.push (kdv_tup rest)).push (excO C hp.objs.size)).get? b = some o := fun _ _ e => Heap.get?_push_of_some _ (Heap.get?_push_of_some _ e)
  have cls1 := old _ _ hC
  have made : ((hp.push (kdv_tup rest)).push (excO C hp.objs.size)).get? (hp.objs.size + 1) = some (excO C hp.objs.size) := by
    heap_get
  have own : (Value.ref C :: bm).contains (.ref C) = true := by
    simp
  have li' := li.keeps old
  have lb' := (lb (.ref (hp.objs.size + 1))).keeps old
  unfold isInstance
  repeat (first
    | with_reducible refine wpAny_loadPart_at made ?_
    | (with_reducible refine wpAny_isSubtype_exc cls1 ?_
       rw [own])
    | wp_step)
  show wpAny _ _ (typeLookup (.ref C) _) _ _ _
  refine li'.at ?_
  refine wpAny_holding (wpAny_bind (lb'.at ?_))
  refine wpAny_bind (wpAny_call (codeAny_mono done fun r s' z => ?_))
  rcases r with e | (v | _ | _ | _) <;> first
    | exact z
    | exact z.elim
    | (obtain ⟨rfl, z2⟩ := z
       first
         | exact wpAny_pure (wpAny_pure z2)
         | (wp_walk
            exact z2))
theorem mk_call (F : ExcBaseFacts B newId initId bmF) (b : Behind B bm) (hC : hp.get? C = some (excClassObj nm q C N bs bm hdct sn sub ab col dd k0 k1 k2 k3 k5 newId))
    (li : Looks (model prog w) hp (typeLookup (.ref C) "__init__") (some (.ref fI))) (lb : ∀ x, Looks (model prog w) hp (bindSpecial (.ref fI) x) (.ref fI, [x])) (few : rest.length ≤ sizeLine)
    (done : codeAny (model prog w) (A.under (.builtin "type.__call__" ⟨.ref C :: rest, []⟩)) (.call (.ref fI) ⟨.ref (hp.objs.size + 1) :: rest, []⟩)
      (InitBack (hp.objs.size + 1) R) ⟨(hp.push (kdv_tup rest)).push (excO C hp.objs.size), g, d, t, os⟩) :
    codeAny (model prog w) A (.call (.ref C) ⟨rest, []⟩) R ⟨hp, g, d, t, os⟩ := by
  have z1 := tc_lookup
  have z2 := tc_bind (.ref C)
  have z3 : (⟨hp, g, d, t, os⟩ : Shared).TypeIs (.ref C) "type" := ⟨_, hC, rfl⟩
  refine codeAny_of_tree ?_
  show wpAny _ _ (callAny (.ref C) _) _ _ _
  repeat (any_goals (first
    | assumption
    | with_reducible refine wpAny_loadPart_at hC ?_
    | wp_step))
  refine ⟨rfl, ?_⟩
  refine codeAny_call_builtin_at (Code.quiet_builtin _ (by decide +kernel)) entry_typeCall (wpAny_check_type_call_sub hC ?_)
  refine mk_body F b hC li lb few (codeAny_mono done fun r s' z => ?_)
  rcases r with e | (v | _ | _ | _) <;> exact z
end
end OwnX
end PySem
set_option Elab.async false
set_option linter.all false
set_option maxRecDepth 100000
set_option maxHeartbeats 4000000
/-! the making of own errors: __init__ keeps what it is given -/
namespace PySem
namespace OwnX
open PySem.W PySem.Calls PyProof.Rows PySem.HandSPX
def argOf (n : Str) (p : Pos) : Arg := { arg := n, annotation := none, pos := p }
def iArgs (l : List Arg) : Arguments := { posonlyargs := [], args := l, vararg := none, kwonlyargs := [], kw_defaults := [], kwarg := none, defaults := [] }
def putSt (f p : Str) (q1 q2 q3 q4 : Pos) : Stmt := .Assign [.Attribute (.Name "self" q1) f q2] (.Name p q3) q4
def iScope (l : List Str) : Scope := { kind := .function, names := l.map fun n => (n, .local), isGenerator := false, isCoroutine := false, more := [] }
/-- the def at fI is such an __init__: its parameters and its text -/
def IsInit (K : Frag) (fI : Addr) (qual : Str) (args : Arguments → Prop) (body : List Stmt → Prop) (sc : Scope) : Prop :=
  ∃ (oc : Value) (od : Option Addr) (doc pm : Value) (an : Option Addr) (cdv ct : Value) (osl : Array (Option Value)) (a : Arguments) (b : List Stmt),
    K.lookup fI = some ⟨oc, od, .func (fnOf "__init__" qual a b sc .none .none doc pm an cdv ct), osl⟩ ∧ codeIn K cdv qual = true ∧ args a ∧ body b
theorem size_few (l : List Value) (h : l.length ≤ 5) : l.length ≤ sizeLine := by
  rw [sizeLine_eq]
  exact Nat.le_trans h (by decide)
theorem loadL {M : Model} {s : Shared} {name : Str} {scope : Scope} {L a : Addr} {cd : Value} {m : Str → Option Value} {x : Str} {pos : Pos} {v : Value} {Q : Value → Shared → Prop} {A : Around} {E : Value → Shared → Prop}
    (hn : s.heap.Ns L m) (hv : m x = some v) (h : Q v s) (hk : scope.kind = .function := by rfl) (hl : (envOfC name scope L a cd).kindOf x = some .local := by rfl) (hd : (x == ("__debug__" : Str)) = false := by decide) :
    wpAny M A (eval (.Name x pos) (envOfC name scope L a cd)) Q E s := wpAny_Name (wpAny_loadName_local hk hl hn hv h) hd
/-- what __init__ leaves of a fresh error at x: its own dict, new, says m -/
structure Kept (h h' : Heap) (x C dx t1 : Addr) (m : Str → Option Value) : Prop where
  keep : ∀ b o, b ≠ x → h.get? b = some o → h'.get? b = some o
  obj : h'.get? x = some { cls := .ref C, dict := some dx, data := .fields #[.ref t1, .none, .none, .none, .bool false, .none] }
  dbig : h.objs.size ≤ dx
  dne : dx ≠ x
  ns : h'.Ns1 dx m
/-- a made error -/
structure Made (h h' : Heap) (e C d : Addr) (m : Str → Option Value) : Prop where
  keep : ∀ b o, h.get? b = some o → h'.get? b = some o
  new : h.objs.size ≤ e
  obj : ∃ oe vs, h'.get? e = some oe ∧ oe.cls = .ref C ∧ oe.dict = some d ∧ oe.data = .fields vs ∧ vs[1]? = some .none
  dbig : h.objs.size ≤ d
  dne : d ≠ e
  ns : h'.Ns1 d m
section
variable {prog : Program} {w : World} {A : Around} {E : Value → Shared → Prop} {R : Result → Shared → Prop} {s : Shared} {K : Frag} {C fI : Addr} {bmB : List Value} {newId B initId : String}
/-- the class is called: it is made if its __init__ keeps -/
theorem made_of {bmF : List Value} (FB : ExcBaseFacts B newId initId bmF) (bh : Behind B bmB) (T : OwnTxt K C fI bmB newId) {us : List Value} {m : Str → Option Value} (hus : us.length ≤ 5) (X : K.In s.heap) (hlim : s.heap.NoLimit) (hroom : A.depth + 1 < recursionLimit)
    (hI : ∀ {A' : Around} {R' : Result → Shared → Prop} {s' : Shared} {x t0 : Addr}, K.In s'.heap → s'.heap.NoLimit → s'.heap.get? x = some (excO C t0) → K.lookup x = none → A'.depth < recursionLimit →
      (∀ h' tk dx, Kept s'.heap h' x C dx t0 m → R' (.ok (.ret .none)) { s' with heap := h', toks := tk }) → codeAny (model prog w) A' (.call (.ref fI) ⟨.ref x :: us, []⟩) R' s')
    (hq : ∀ h' tk e d, Made s.heap h' e C d m → R (.ok (.ret (.ref e))) { s with heap := h', toks := tk }) :
    codeAny (model prog w) A (.call (.ref C) ⟨us, []⟩) R s := by
  obtain ⟨nm, q, N, bs, bm, sn, sub, ab, col, dd, k0, k1, k2, k3, k5, hC, hbm⟩ := T.cls
  obtain ⟨hp, g, dr, tk, os⟩ := s
  have k : ∀ b o, hp.get? b = some o → ((hp.push (kdv_tup us)).push (excO C hp.objs.size)).get? b = some o := fun b o e => Heap.get?_push_of_some _ (Heap.get?_push_of_some _ e)
  have hget : ((hp.push (kdv_tup us)).push (excO C hp.objs.size)).get? (hp.objs.size + 1) = some (excO C hp.objs.size) := by heap_get
  have bh' : Behind B bm := ⟨(excTail_contains _ bm hbm).trans bh.has, (excTail_contains _ bm hbm).trans bh.noA, (excTail_contains _ bm hbm).trans bh.noN⟩
  refine mk_call FB bh' (X _ _ hC) (looks_findIn X T.iC) (fun self => bind_fn X self T.tC) (size_few us hus) ?_
  have hnx : K.lookup (hp.objs.size + 1) = none := by
    cases e : K.lookup (hp.objs.size + 1) with
    | none => rfl
    | some o => exact absurd (Nat.lt_of_succ_lt (Heap.lt_size (X _ _ e : hp.get? (hp.objs.size + 1) = some o))) (Nat.lt_irrefl _)
  refine hI (s' := ⟨(hp.push (kdv_tup us)).push (excO C hp.objs.size), g, dr, tk, os⟩) (X.keeps k) (hlim.keeps k) hget hnx ?_ fun h' tk' dx ⟨k', hx, dn, dne, hns⟩ => ?_
  · show A.depth + 1 < recursionLimit
    exact hroom
  · have old : ∀ b o, hp.get? b = some o → h'.get? b = some o := fun b o e => k' b o (Nat.ne_of_lt (Nat.lt_succ_of_lt (Heap.lt_size e))) (k b o e)
    have z : hp.objs.size + 1 + 1 ≤ dx := by
      first
        | (simpa only [Heap.size_push] using dn)
        | exact dn
        | (have q := dn; rw [Heap.size_push, Heap.size_push] at q; exact q)
    exact ⟨rfl, hq h' tk' (hp.objs.size + 1) dx ⟨old, Nat.le_succ _, ⟨_, _, hx, rfl, rfl, rfl, rfl⟩, Nat.le_trans (Nat.le_trans (Nat.le_succ _) (Nat.le_succ _)) z, dne, hns⟩⟩
theorem init_value (SF : StoreFacts B bmB "object.__setattr__" "object") (T : OwnTxt K C fI bmB newId) {qual : Str} (noN : findIn K (.ref C) "value" = some none)
    (fn : IsInit K fI qual (fun a => ∃ p1 p2, a = iArgs [argOf "self" p1, argOf "value" p2]) (fun b => ∃ q1 q2 q3 q4, b = [putSt "value" "value" q1 q2 q3 q4]) (iScope ["self", "value"]))
    {x t0 : Addr} {v : Value} (X : K.In s.heap) (hlim : s.heap.NoLimit) (hx : s.heap.get? x = some (excO C t0)) (hnx : K.lookup x = none) (hroom : A.depth < recursionLimit)
    (hq : ∀ h' tk dx, Kept s.heap h' x C dx t0 (fun y => if y = "value" then some v else none) → R (.ok (.ret .none)) { s with heap := h', toks := tk }) :
    codeAny (model prog w) A (.call (.ref fI) ⟨[.ref x, v], []⟩) R s := by
  obtain ⟨oc, od, doc, pm, an, cdv, ct, osl, a, b, ho, hcd, ⟨p1, p2, rfl⟩, ⟨q1, q2, q3, q4, rfl⟩⟩ := fn
  refine Att.call_fn (binds := [("self", .ref x), ("value", v)]) X hlim ho hcd hroom (BindsTo.of_eq (by first | rfl | with_unfolding_all rfl)) (by first | rfl | decide | with_unfolding_all rfl) (fun s₁ IC => ?_) rfl rfl rfl
  obtain ⟨h₁, tk₁, rfl⟩ := IC.toInCall.same
  have k : ∀ b o, s.heap.get? b = some o → h₁.get? b = some o := IC.toInCall.keep
  have hn := IC.toInCall.ns
  have X₁ : K.In h₁ := X.keeps k
  have hx₁ := k _ _ hx
  show wpAny _ _ (execs _ _) _ _ _
  refine wpAny_execs_cons (plainObj_wpAny_Assign_Attribute ?_)
  refine loadL (v := v) hn (by first | rfl | with_unfolding_all rfl | kernel_rfl) (loadL (v := .ref x) hn (by first | rfl | with_unfolding_all rfl | kernel_rfl) ?_)
  refine set_plain X₁ (ox := excO C t0) (od := none) ⟨hx₁, rfl, rfl, trivial⟩ T.sa ?_
  refine keep_first SF T X₁ hx₁ noN (fun h₃ tk₃ dx k₃ dn dne hx₃ hn₃ => ?_)
  show wpAny _ _ (execs _ _) _ _ _
  have z : s.heap.objs.size < h₁.objs.size := hn.lt
  exact wpAny_execs_nil (hq h₃ tk₃ dx ⟨fun b o hb e => k₃ b o hb (k b o e), hx₃, Nat.le_of_lt (Nat.lt_of_lt_of_le z dn), dne, hn₃⟩)
end
end OwnX
end PySem
set_option Elab.async false
set_option linter.all false
set_option maxRecDepth 100000
set_option maxHeartbeats 4000000
namespace L2
open PySem PySem.Spec PyProof.Rows PySem.OwnX
/-- X(e, ..), X an own error whose __init__ keeps what it is given: its own dict says fs of the values -/
def tMkK (C : Addr) (n : Nat) (fs : List V → List (Str × V)) (ta : TA) : St → Hp → XK → Prop := fun σ H Q => ta σ H fun vs H1 => vs.length = n ∧ ∀ d, H1 d = none → Q (.ref C) (some d) (upd H1 d (.xd (fs vs)))
/-- what the __init__ at fI does with n values -/
def Keeps (P : Program) (w : World) (K : PySem.W.Frag) (C fI : Addr) (n : Nat) (fs : List V → List (Str × V)) : Prop :=
  ∀ (vs : List V) (us : List Value), Vals vs us → vs.length = n → ∃ m : Str → Option Value, (∀ f, RelO ((fs vs).lookup f) (m f)) ∧
    ∀ {A' : Around} {R' : Result → Shared → Prop} {s' : Shared} {x t0 : Addr}, K.In s'.heap → s'.heap.NoLimit → s'.heap.get? x = some (HandSPX.excO C t0) → K.lookup x = none → A'.depth < recursionLimit →
      (∀ h' tk dx, Kept s'.heap h' x C dx t0 m → R' (.ok (.ret .none)) { s' with heap := h', toks := tk }) → codeAny (model P w) A' (.call (.ref fI) ⟨.ref x :: us, []⟩) R' s'
section
variable {X : Cx} {C fI : Addr} {B newId initId : String} {bmB : List Value}
theorem pmk_keep {x : Str} {e : Expr} {es : List Expr} {ta : TA} {p pos : Pos} {k n : Nat} {fs : List V → List (Str × V)} {bmF : List Value} (FB : ExcBaseFacts B newId initId bmF) (bh : Behind B bmB) (T : OwnTxt X.K C fI bmB newId) (gC : X.mg x = some (.ref C)) (hn : n ≤ 5)
    (hI : Keeps X.prog X.w X.K C fI n fs) (hr : Room k X.A) (ha : PA X (e :: es) ta) (hg : Gl X x := by rfl) (hdb : (x == ("__debug__" : Str)) = false := by decide)
    (he : starEach (e :: es) X.env = (false, eval e X.env) :: starEach es X.env := by rfl) (hpl : (backTo pos (starEach es X.env)).any (·.1) = false := by rfl) :
    PMk X (.Call (.Name x p) (e :: es) [] pos) (tMkK C n fs ta) := by
  intro pins s σ H Q I h
  refine wpAny_Call_Name_kw (ld_glob I hg gC ?_ hdb)
  refine PySem.W.callWith_K (h₀ := X.base) I.ok.mod.kin T.kC (thn (ha.run pos pins s σ H _ I h) fun us s1 hh => ?_) he hpl
  obtain ⟨vs, H1, I1, r1, ln, q1⟩ := hh
  refine ⟨I1.kIn, ?_⟩
  show wpAny _ _ (call (.ref C) us) _ _ _
  obtain ⟨m, hrel, hI⟩ := hI vs us r1 ln
  have hlim := I1.nolimit
  have hus : us.length ≤ 5 := by rw [← r1.length, ln]; exact hn
  obtain ⟨hp, g, dr, tk, os⟩ := s1
  refine wpAny_call (made_of FB bh T (m := m) hus I1.kIn hlim (by have := hr.dp; omega) hI fun h' tk' e' d M => ?_)
  show MkP X pins σ Q (.ref e') ⟨h', g, dr, tk', os⟩
  obtain ⟨oe, fv, hoe, hc, hd, hdat, h1⟩ := M.obj
  have hns := M.ns
  obtain ⟨G', g1, g2⟩ := restrict h' fun b => decide (b ≠ e')
  have gk : ∀ b, b ≠ e' → G'.get? b = h'.get? b := fun b hb => g1 b (decide_eq_true hb)
  have ge : G'.get? e' = none := g2 e' (by simp)
  have old : ∀ b o, hp.get? b = some o → G'.get? b = some o := fun b o q => (gk b (Nat.ne_of_lt (Nat.lt_of_lt_of_le (Heap.lt_size q) M.new))).trans (M.keep b o q)
  have ob : ObjOk X.prog X.w (upd H1 d (.xd (fs vs))) G' d (.xd (fs vs)) := ⟨m, hns.at (fun o q => (gk d M.dne).trans q), hrel⟩
  have J : Inv X pins σ (upd H1 d (.xd (fs vs))) ⟨G', g, dr, tk', os⟩ := I1.laid (t' := tk') old M.dbig ob
  refine ⟨e', oe, fv, ⟨G', g, dr, tk', os⟩, _, .ref C, some d, rfl, J, fun b o q => ?_, ge, hoe, ⟨hc, hd⟩, hdat, h1, ?_, rfl, I1.bare, raises_own T.exC T.tyC, q1 d (I1.hok.fresh M.dbig)⟩
  · by_cases hb : b = e'
    · have q' : G'.get? b = some o := q
      rw [hb, ge] at q'
      cases q'
    · exact (gk b hb).symm.trans q
  · rw [upd_ne (Ne.symm M.dne)]
    exact I1.hok.fresh M.new
/-- low.f, low the error that the suite holds (at a; its class cls, its dict d) -/
def tByE (C : Addr) (f : Str) (a : Addr) (cls : Value) (d : Option Addr) (te : TE) : TE := fun σ H Q => te σ H fun x H1 => x = .ref a ∧ cls = .ref C ∧ ∃ (dd : Addr) (fs : List (Str × V)) (v : V), d = some dd ∧ H1 dd = some (.xd fs) ∧ fs.lookup f = some v ∧ Q v H1
theorem pe_byE {a : Addr} {oe : Obj} {cls : Value} {d : Option Addr} {pn : List (Addr × Obj)} {e : Expr} {te : TE} {f : Str} {pos : Pos} (T : OwnTxt X.K C fI bmB newId) (noF : PySem.W.findIn X.K (.ref C) f = some none) (hz : Zc cls d oe) (hf : ∃ vs, oe.data = .fields vs)
    (he : PE (X.suite a ((a, oe) :: pn)) e te) (hcp : PySem.W.copiedNames.contains f = false := by decide +kernel) (hb : attributeBase e f X.env (eval e X.env) = eval e X.env := by rfl) :
    PE (X.suite a ((a, oe) :: pn)) (.Attribute e f pos) (tByE C f a cls d te) := by
  refine ⟨fun pins s σ H Q I h => ?_⟩
  refine attr_of hb (thn (he.run pins s σ H _ I h) fun u s1 hh => ?_)
  obtain ⟨x, H1, I1, rx, ex, ec, dd, fs, v, ed, ea, lf, q⟩ := hh
  subst ex
  obtain rfl : u = Value.ref a := rx
  subst ec
  subst ed
  obtain ⟨ha, _⟩ := I1.pin (a, oe) (List.mem_append_left _ List.mem_cons_self)
  obtain ⟨vs, hd⟩ := hf
  have hx : ObjOk X.prog X.w H1 s1.heap dd (.xd fs) := I1.hok dd _ ea
  obtain ⟨mA, hns, hr⟩ := hx
  obtain ⟨od, ho, hl⟩ := lookIn_ns hns
  obtain ⟨u, hu, ru⟩ := RelO.some_of (v := v) (o := mA f) (by rw [← lf]; exact hr f)
  have J : PySem.W.InstAt s1.heap a oe C (some od) := ⟨ha, hz.1, by unfold PySem.W.notCls; rw [hd] <;> rfl, by rw [hz.2]; exact ho⟩
  exact HandSPX.exc_get I1.kIn J T.ga T.gg T.exC (PySem.W.findObj_own T.hdC noF rfl (by rw [hl, hu])) (handed_of ru) ⟨v, H1, I1.tok _, ru, q⟩
end
end L2
set_option Elab.async false
set_option linter.all false
set_option maxRecDepth 100000
set_option maxHeartbeats 2000000
/-! defs that are called where nothing is being shown: repr of data -/
namespace L2
open PySem PySem.Spec PyProof.Rows
/-- a def's promise where nothing is being shown -/
structure FnG (P : Program) (w : World) (K : PySem.W.Frag) (mg : Str → Option Value) (base : Heap) (CX : CXT) (k : Nat) (f : Addr) (fd : FuncData) (ps : List Str) (sp : Sp) : Prop where
  few : ∀ vs H Q E, sp vs H Q E → vs.length = ps.length
  go : ∀ (A : Around) (l : List Env) (s : Shared) (H : Hp) (args : Args) (us : List Value) (vs : List V) (Q : VK) (E : XK), A.guards = some [] → Room k A → Env0 P w K mg base A l s H → BindsTo s fd args (ps.zip us) → Vals vs us → sp vs H Q E →
    codeAny (model P w) A (.call (.ref f) args) (CR CX l P w H s Q E) s
section
variable {P : Program} {w : World} {K : PySem.W.Frag} {mg : Str → Option Value} {base : Heap} {CX : CXT} {k : Nat} {f : Addr} {ps : List Str} {sp : Sp}
theorem FnG.of {fd : FuncData} (F : FnOk P w K mg base CX k f fd ps sp) : FnG P w K mg base CX k f fd ps sp := ⟨F.len, fun A l s H args us vs Q E _ => F.run A l s H args us vs Q E⟩
theorem gives_back {N : List Str} {name : Str} {scope : Scope} {cdv : Value} {A : Around} {l : List Env} {s s' : Shared} {H : Hp} {Q : VK} {E : XK} {fl : Flow}
    (h : SP (cxOf CX P w K mg base N name scope f cdv A l s H E) [] { nx := fun _ H' => Q .non H', rt := Q } fl s') : CR CX l P w H s Q E (.ok (.ret (match (generalizing := false) fl with | .ret u => u | _ => .none))) s' := by
  cases fl with
  | ret u =>
    obtain ⟨v, σ', H', J, rv, q⟩ := h
    exact ⟨v, H', J.os, J.bare, J.base, J.hok, rv, q⟩
  | next =>
    obtain ⟨σ', H', J, q⟩ := h
    exact ⟨.non, H', J.os, J.bare, J.base, J.hok, rfl, q⟩
  | brk =>
    obtain ⟨_, _, _, q⟩ := h
    exact q.elim
  | cont =>
    obtain ⟨_, _, _, q⟩ := h
    exact q.elim
theorem kept_in {A : Around} {l : List Env} {s : Shared} {H : Hp} (e : Env0 P w K mg base A l s H) : K.In s.heap ∧ s.heap.NoLimit :=
  ⟨e.mod.kin.keeps fun b o z => (e.bs b o z).1, e.mod.nolimit.keeps fun b o z => (e.bs b o z).1⟩
theorem kinds_of {N : List Str} {scope : Scope} {n : Nat} {us : List Value} (S : FnScope N ps scope) : ∀ y ∈ ps.zip us, scope.names.lookup y.1 = some .local ∨ (scope.names.lookup y.1 = some .cell ∧ ((cellsFrom n scope.names []).lookup y.1).isSome = true) := by
  rintro ⟨x, v⟩ hy
  rcases S.par x (List.of_mem_zip hy).1 with z | z
  · exact .inl z
  · exact .inr ⟨z, PySem.W.cellsFrom_some _ _ _ (.inl z)⟩
theorem fnG_of {name qual : Str} {params : Arguments} {body : List Stmt} {scope : Scope} {dV kV doc pm cdv ct oc : Value} {an od : Option Addr} {osl : Array (Option Value)} {N : List Str}
    (lk : K.lookup f = some ⟨oc, od, .func (PySem.W.fnOf name qual params body scope dV kV doc pm an cdv ct), osl⟩) (hcd : PySem.W.codeIn K cdv qual = true) (S : FnScope N ps scope) (few : ∀ vs H Q E, sp vs H Q E → vs.length = ps.length)
    (hb : ∀ (A : Around) (l : List Env) (s : Shared) (H : Hp) (vs : List V) (Q : VK) (E : XK), A.guards = some [] → Room k (A.deeper (envOfC qual scope s.heap.objs.size f cdv)) → sp vs H Q E →
      ∃ t, PSs (cxOf CX P w K mg base N qual scope f cdv A l s H E) body t ∧ t { nx := fun _ H' => Q .non H', rt := Q } (start N vs) H) :
    FnG P w K mg base CX (k + 1) f (PySem.W.fnOf name qual params body scope dV kV doc pm an cdv ct) ps sp := by
  refine ⟨few, ?_⟩
  intro A l s H args us vs Q E hg hr e hbind r h
  obtain ⟨kin, lim⟩ := kept_in e
  refine codeAny_call_function hr.depth (kin _ _ lk) rfl S.co S.gen rfl (PySem.W.codeRec_of kin hcd) (hbind _ _ _ _ ?_)
  refine wpAny_newFunctionEnv_cells S.kind (kinds_of S) ?_
  rintro env rfl s1 x
  refine ⟨lim.keeps x.toInCall.keep, codeAny_func ?_⟩
  obtain ⟨t, ht, q⟩ := hb A l s H vs Q E hg (hr.deeper _) h
  exact wpAny_mono (ht.run [] s1 (start N vs) H _ (inv_start S hr.hd e (few _ _ _ _ h) r x) q) (fun fl s' z => gives_back z) fun _ _ z => z
theorem FnG.on {x qual : Str} {st : Stmt} {fd : FuncData} {N : List Str} (F : Fun K x qual st f fd) (S : FnScope N ps (defScope st)) (few : ∀ vs H Q E, sp vs H Q E → vs.length = ps.length)
    (hb : ∀ (cdv : Value) (A : Around) (l : List Env) (s : Shared) (H : Hp) (vs : List V) (Q : VK) (E : XK), A.guards = some [] → Room k (A.deeper (envOfC qual (defScope st) s.heap.objs.size f cdv)) → sp vs H Q E →
      ∃ t, PSs (cxOf CX0 P w K mg base N qual (defScope st) f cdv A l s H E).nox (defBody st) t ∧ t { nx := fun _ H' => Q .non H', rt := Q } (start N vs) H) : FnG P w K mg base CX0 (k + 1) f fd ps sp := by
  obtain ⟨oc, od, kV, doc, pm, an, cdv, ct, osl, rfl, lk, hcd⟩ := F.ex
  refine fnG_of lk hcd S few fun A l s H vs Q E hg hr h => ?_
  obtain ⟨t, h1, q⟩ := hb cdv A l s H vs Q E hg hr h
  exact ⟨t, h1.nox, q⟩
end
section
variable {X : Cx} {CX : CXT} {k : Nat} {f : Addr} {fd : FuncData} {ps : List Str} {sp : Sp} {E : XK} {x : Str} {p pos : Pos} {e : Expr} {es : List Expr} {t : TA}
theorem pe_callG (F : FnG X.prog X.w X.K X.mg X.base CX k f fd ps sp) (gd : X.A.guards = some []) (hr : Room k X.A) (hg : Gl X x) (hm : X.mg x = some (.ref f)) (hk : PySem.W.keepIn X.K (.ref f) = true) (hb : Binds X.K fd ps []) (hx : Passes CX X E)
    (ha : PA X (e :: es) t) (hdb : (x == ("__debug__" : Str)) = false := by decide) (he : starEach (e :: es) X.env = (false, eval e X.env) :: starEach es X.env := by rfl) (hpl : (backTo pos (starEach es X.env)).any (·.1) = false := by rfl) :
    PE X (.Call (.Name x p) (e :: es) [] pos) (tCall sp [] E t) := by
  constructor
  intro pins s σ H Q I h
  refine wpAny_Call_Name_kw (ld_glob I hg hm ?_ hdb)
  refine PySem.W.callWith_K (h₀ := X.base) I.ok.mod.kin hk (thn (ha.run pos pins s σ H _ I h) ?_) he hpl
  rintro us s1 ⟨vs, H1, I1, r, q⟩
  rw [List.append_nil] at q
  refine ⟨I1.kIn, wpAny_call (codeAny_mono (F.go X.A X.stack s1 H1 ⟨us, []⟩ us vs Q E gd hr I1.env0 ?_ r q) ?_)⟩
  · have z := hb s1 us I1.kIn (by rw [List.append_nil, ← r.length]; exact F.few _ _ _ _ q)
    rw [List.append_nil] at z
    exact z
  · rintro (er | fl) s' z
    · exact hx pins σ H1 s1 er s' I1 z
    · cases fl with
      | ret u => exact I1.after z
      | next => exact z.elim
      | brk => exact z.elim
      | cont => exact z.elim
end
end L2
set_option Elab.async false
set_option linter.all false
set_option maxRecDepth 100000
set_option maxHeartbeats 2000000
/-! a law's end by a promise that asks that nothing is being shown -/
namespace L2
open PySem PySem.Spec PyProof.Rows
/-- the ground: what stands behind the top, without what H tracks (the script at a, or nothing) -/
structure OneAt (K : PySem.W.Frag) (h : Heap) (H : Hp) (a : Addr) : Prop where
  only : ∀ b, H b ≠ none → b = a
  own : H a ≠ none → K.lookup a = none
section
variable {P : Program} {w : World} {K : PySem.W.Frag} {mg mb : Str → Option Value} {h : Heap} {H : Hp} {a : Addr} {vs : List Value}
theorem OneAt.free (o : OneAt K h H a) (ha : h.get? a = some { cls := .type "list", data := .seq vs.toArray }) {b : Addr} {u : Obj} {es : Array DictEntry} {n : Nat} (e : h.get? b = some u) (d : u.data = .dict es n) : H b = none := by
  by_cases z : H b = none
  · exact z
  · have q := o.only b z
    rw [q, ha] at e
    cases e
    cases d
theorem OneAt.ns (o : OneAt K h H a) (ha : h.get? a = some { cls := .type "list", data := .seq vs.toArray }) {b : Addr} {m : Str → Option Value} : h.Ns b m → (hidT h H).Ns b m := by
  rintro ⟨u, es, n, e, d, r⟩
  exact ⟨u, es, n, hidT_get e (o.free ha e d), d, r⟩
theorem OneAt.kin (o : OneAt K h H a) (kin : K.In h) : K.In (hidT h H) := by
  intro b u e
  refine hidT_get (kin b u e) ?_
  by_cases z : H b = none
  · exact z
  · have q := o.only b z
    subst q
    rw [o.own z] at e
    cases e
theorem OneAt.mod (o : OneAt K h H a) (kin : K.In h) (ha : h.get? a = some { cls := .type "list", data := .seq vs.toArray }) (ng : h.Ns mainGlobals mg) (nb : h.Ns builtinsNs mb) (bb : ∀ x : Str, x ≠ "__name__" → mb x = bootBuiltins x) (lim : h.NoLimit) : Mod K mg (hidT h H) := by
  obtain ⟨mc, l1, l2⟩ := lim
  exact ⟨o.kin kin, o.ns ha ng, ⟨mb, o.ns ha nb, bb⟩, ⟨mc, o.ns ha l1, l2⟩⟩
end
theorem law_at {P : Program} {w : World} {K : PySem.W.Frag} {mg mb : Str → Option Value} {k : Nat} {fa a : Addr} {fd : FuncData} {x : Str} {sp : Sp} {s : Shared} {vs : List Value} {H : Hp}
    (kin : K.In s.heap) (ng : s.heap.Ns mainGlobals mg) (nb : s.heap.Ns builtinsNs mb) (bb : ∀ x : Str, x ≠ "__name__" → mb x = bootBuiltins x) (lim : s.heap.NoLimit) (hgen : s.gens = #[])
    (ha : s.heap.get? a = some { cls := .type "list", data := .seq vs.toArray }) (hr : Room k callerA) (F : ∀ base : Heap, K.In base → base.Ns mainGlobals mg → FnG P w K mg base CX0 k fa fd [x] sp) (bd : ∀ (t : Shared) (u : Value), BindsTo t fd ⟨[u], []⟩ [(x, u)])
    (o : OneAt K s.heap H a) (hO : Only H) (ok : HOk P w H s.heap) (hsp : sp [.ref a] H (fun v _ => v = .bl true) fun _ _ _ => False) :
    codeAny (model P w) callerA (.call (.ref fa) ⟨[.ref a], []⟩) (fun r t => r = .ok (.ret (.bool true)) ∧ OldK s.heap t.heap ∧ t.os = s.os ∧ AllBare t.gens) s := by
  have e0 : Env0 P w K mg (hidT s.heap H) callerA [] s H :=
    ⟨rfl, o.mod kin ha ng nb bb lim, fun _ _ z => of_hidT z, Nat.le_of_eq (hidT_size _ _), trivial, fun b z => (nomatch (show b ∈ ([] : List Addr) from z)), ok, .of_eq hgen⟩
  refine codeAny_mono ((F _ (o.kin kin) (o.ns ha ng)).go callerA [] s H ⟨[.ref a], []⟩ [.ref a] [.ref a] _ _ rfl hr e0 (bd s (.ref a)) (.cons rfl .nil) hsp) ?_
  rintro (er | fl) t z
  · exact (show False from z).elim
  · cases fl with
    | next => exact z.elim
    | brk => exact z.elim
    | cont => exact z.elim
    | ret u =>
      obtain ⟨v, H', e1, e2, un, ok', r, q⟩ := z
      have q : v = .bl true := q
      rw [q] at r
      have r : u = Value.bool true := r
      rw [r]
      refine ⟨rfl, OldK.of_keep ?_, e1, e2⟩
      intro b ob e
      by_cases hn : H b = none
      · exact un.keep b ob e hn (fun z => (nomatch (show b ∈ ([] : List Addr) from z))) (by simp)
      · rcases hO b with n | ⟨of, xs, n⟩
        · exact absurd n hn
        · have g1 := (ok b _ n).1
          have g2 := (ok' b _ (un.frzs b of _ n)).1
          rw [e] at g1
          cases g1
          exact g2
/-- the law's end -/
theorem walk_G {l : PySem.W.OpenLaw} {n k : Nat} {q : Program} {loose : List Str} {XP : (Str → Option Value) → Heap → Prop} {YP : World → Heap → Prop} {d : DefRec} {K : Params → PySem.W.Frag} {sp : World → Sp} {x : Str}
    (hn : l.most = some n) (hn2 : n ≤ sizeLine) (hdf : d.params.defaults = []) (hr : Room k callerA) (hY : ∀ (w : World) (h : Heap), YP w h → (K w.params).In h)
    (F : ∀ (w : World) (mg : Str → Option Value) (fa : Addr) (h : Heap), (K w.params).In h → h.Ns mainGlobals mg → mg d.name = some (.ref fa) →
      ∃ fd : FuncData, (∀ (s : Shared) (u : Value), BindsTo s fd ⟨[u], []⟩ [(x, u)]) ∧ ∀ base : Heap, (K w.params).In base → base.Ns mainGlobals mg → FnG l.prog w (K w.params) mg base CX0 k fa fd [x] (sp w))
    (hsp : ∀ (w : World) (H : Hp) (a : Addr) (ns : List Int), ns.length ≤ n → SqL (K w.params) H a (ns.map V.int) → sp w [.ref a] H (fun v _ => v = .bl true) fun _ _ _ => False) :
    PySem.W.WalkO q loose XP YP l.row.toRowW d [] (fun f vs => PySem.call f vs) := by
  refine Att.attach_call hn hdf ?_
  intro w s0 s mg mb fa ob pm cd doc a vs ns G Y ho hd hcd hmg hobj hi hlen hgen
  have kin := hY w _ Y
  obtain ⟨fd, bd, hF⟩ := F w mg fa _ kin G.T.g hmg
  have hz : ns.length ≤ sizeLine := Nat.le_trans hlen hn2
  have rv := vals_ints hi
  cases hk : (K w.params).lookup a with
  | some u =>
    have e := kin a u hk
    rw [hobj] at e
    cases e
    have no : ∀ b, (fun _ => none : Hp) b ≠ none → b = a := fun b z => absurd rfl z
    refine law_at kin G.T.g G.T.b G.T.builtins G.T.nolimit hgen hobj hr hF bd ⟨no, fun z => absurd rfl z⟩ (fun _ => .inl rfl) (fun b v z => nomatch (show (none : Option HO) = some v from z)) (hsp w _ a ns hlen ?_)
    exact .inr ⟨_, vs.toArray, _, hk, rfl, rfl, rfl, by rw [List.size_toArray, hi.length]; exact hz, by simpa using rv⟩
  | none =>
    have at_ : (fun b => if b = a then some (.frz { cls := .type "list", data := .seq vs.toArray } (.lst (ns.map V.int))) else none : Hp) a = some (.frz { cls := .type "list", data := .seq vs.toArray } (.lst (ns.map V.int))) := if_pos rfl
    have off : ∀ {b : Addr}, b ≠ a → (fun b => if b = a then some (.frz { cls := .type "list", data := .seq vs.toArray } (.lst (ns.map V.int))) else none : Hp) b = none := fun z => if_neg z
    generalize (fun b => if b = a then some (.frz { cls := .type "list", data := .seq vs.toArray } (.lst (ns.map V.int))) else none : Hp) = H at at_ off
    refine law_at kin G.T.g G.T.b G.T.builtins G.T.nolimit hgen hobj hr hF bd ⟨fun b z => ?_, fun _ => hk⟩ (fun b => ?_) (fun b u z => ?_) (hsp w H a ns hlen (.inl (.inr ⟨_, at_⟩)))
    · by_cases c : b = a
      · exact c
      · exact absurd (off c) z
    · by_cases c : b = a
      · rw [c]
        exact .inr ⟨_, _, at_⟩
      · exact .inl (off c)
    · by_cases c : b = a
      · rw [c, at_] at z
        cases z
        rw [c]
        exact ⟨hobj, by rw [List.length_map]; exact hz, vs, _, rv, hobj⟩
      · rw [off c] at z
        cases z
end L2
set_option Elab.async false
set_option linter.all false
set_option maxRecDepth 100000
set_option maxHeartbeats 2000000
/-! repr of data, where nothing is being shown -/
namespace L2
open PySem PySem.Spec PyProof.Rows
/-- data that can be shown -/
structure Sh (d : PyData) : Prop where
  s : d.showable = true
  l : d.leavesShort 13 = true
  b : d.bulk ≤ 2 ^ 20
  p : d.depth ≤ 20
theorem Sh.fits {d : PyData} (h : Sh d) : d.shown.length ≤ sizeLine := PyData.shown_fits_bulk (by decide) (by decide) h.l h.b
/-- a value and what it says -/
inductive Dd (K : PySem.W.Frag) (H : Hp) : V → PyData → Prop where
  | dp {v : V} {d : PyData} (h : Dp K H v d) (n : d.hasDict = false) : Dd K H v d
  | d12 {a : Addr} (h : H a = some (.dK [(Sum.inl 1, .int 2)])) : Dd K H (.ref a) (.dict [(.int 1, .int 2)])
def rRepr (K : PySem.W.Frag) : List V → Hp → VK → Prop := fun xs H Q => ∃ v d, xs = [v] ∧ Dd K H v d ∧ Sh d ∧ Q (.str d.shown) H
section
variable {X : Cx} {pins : List (Addr × Obj)} {σ : St} {H : Hp} {s : Shared}
theorem d12_reads (I : Inv X pins σ H s) {a : Addr} (h : H a = some (.dK [(Sum.inl 1, .int 2)])) : Reads s.heap (.ref a) (.dict [(.int 1, .int 2)]) [a] ∧ a ≠ sysModules := by
  obtain ⟨_, hsm, vs, kv, o, es, ep, ho, hx, hd, _, hp, _⟩ := I.hok a _ h
  have hne : a ≠ sysModules := fun z => by
    rw [z] at hsm
    simp at hsm
  refine ⟨?_, hne⟩
  obtain ⟨el⟩ := es
  unfold KV at kv
  rcases vs with _ | ⟨⟨k, v⟩, vs'⟩
  · cases kv
  cases kv with
  | cons r1 r2 =>
    cases r2
    obtain ⟨e1, e2⟩ := r1
    have e1 : Sum.inl 1 = k := e1
    subst e1
    obtain ⟨t2, e2⟩ := (show ∃ t, v = Value.int 2 t from e2)
    subst e2
    have hp : Pairs (mixKind X.prog X.w) el [(Sum.inl 1, Value.int 2 t2)] := hp
    rcases el with _ | ⟨e, el'⟩
    · cases hp
    cases hp with
    | cons p1 p2 p3 =>
      cases p3
      obtain ⟨t1, e3⟩ := Value.isInt_shape (k := 1) (v := e.key) p1
      have p2 : e.val = Value.int 2 t2 := p2
      refine Reads.dict (as := []) (bs := []) ho hx.1 hd ?_ ?_
      · show ReadsAll s.heap [e.key] [.int 1] []
        rw [e3]
        exact ReadsAll.cons (as := []) (bs := []) (Reads.int 1 t1) .nil
      · show ReadsAll s.heap [e.val] [.int 2] []
        rw [p2]
        exact ReadsAll.cons (as := []) (bs := []) (Reads.int 2 t2) .nil
theorem call_repr (hg : X.A.guards = some []) (hu : X.A.units + 40 < cLine) : CallR X (.builtin "repr") (rRepr X.K) := by
  intro pins s σ H xs us Q I r h
  obtain ⟨v, d, rfl, hd, sh, q⟩ := h
  obtain ⟨u, rfl, ru⟩ := vals1 r
  have road : ∀ (a : Addr) (as : List Addr), Reads s.heap (.ref a) d as → (d.hasDict = true → sysModules ∉ as) → wpAny (model X.prog X.w) X.A (call (.builtin "repr") [.ref a]) (EP X pins σ Q) X.xe s := fun a as rd hs =>
    repr_of_reads' rd sh.s hs hg (by have := sh.p; omega) (fun _ _ z => z) (fun h' u tk hk => ⟨.str _, H, I.kept (t' := tk) hk, ⟨_, rfl⟩, q⟩) sh.fits
  cases hd with
  | d12 h =>
    cases ru
    obtain ⟨rd, ne⟩ := d12_reads I h
    exact road _ _ rd fun _ z => ne (List.mem_singleton.mp z).symm
  | dp h n =>
    obtain ⟨as, rd⟩ := Dp.reads I d v u h ru
    cases rd with
    | none =>
      rw [PyData.shown_none] at q
      exact PySem.P.repr_of_none ⟨.str _, H, I.tok _, ⟨_, rfl⟩, q⟩
    | bool b =>
      rw [PyData.shown_bool] at q
      exact PySem.P.repr_of_bool ⟨.str _, H, I.tok _, ⟨_, rfl⟩, q⟩
    | int i t =>
      rw [PyData.shown_int] at q
      exact PySem.P.repr_of_int (of_decide_eq_true sh.s) ⟨.str _, H, I.tok _, ⟨_, rfl⟩, q⟩
    | str x t =>
      have z := sh.fits
      rw [PyData.shown_str] at q z
      exact PySem.P.repr_of_str ⟨.str _, H, I.tok _, ⟨_, rfl⟩, q⟩ z
    | list a1 a2 a3 a4 => exact road _ _ (Reads.list a1 a2 a3 a4) (PyData.noDict_hsm n)
    | tuple a1 a2 a3 a4 => exact road _ _ (Reads.tuple a1 a2 a3 a4) (PyData.noDict_hsm n)
    | dict a1 a2 a3 a4 a5 => cases n
end
end L2
set_option Elab.async false
set_option linter.all false
set_option maxRecDepth 100000
set_option maxHeartbeats 4000000
/-! {**d, k: v} -/
namespace DStar
open PySem PySem.Spec PyProof.Rows PySem.Calls L2
section
variable {prog : Program} {w : World} {A : Around} {E : Value → Shared → Prop} {s : Shared}
theorem put_pair {d : Addr} {kvs : List (Key × Value)} {k : Key} {key v : Value} {Q : Unit → Shared → Prop} (hk : keyIs k key = true) (hm : s.heap.DictOf (mixKind prog w) d kvs) (hz : kvs.length ≤ sizeLine)
    (q : ∀ h', h'.DictOf (mixKind prog w) d (stored kvs k v) → Heap.SameBut d s.heap h' → Q () { s with heap := h' }) : wpAny (model prog w) A (dictPut d ((mixKind prog w).hash k) key v) Q E s := by
  have hk : (mixKind prog w).is k key = true := hk
  obtain ⟨o, es, ep, ho, hc, hd, ks, hp, nd⟩ := hm
  have size : es.size ≤ sizeLine := by
    have a := hp.length
    have b : es.toList.length = es.size := by simp
    omega
  unfold dictPut
  refine wpAny_bind (wpAny_dictFind_of hk ho hd ks ?_)
  have place : (es.findIdx? fun e => (mixKind prog w).is k e.key) = kvs.findIdx? fun kv => decide (kv.1 = k) := by
    rw [← hp.findIdx k]
    obtain ⟨l⟩ := es
    simp
  cases at_ : es.findIdx? fun e => (mixKind prog w).is k e.key with
  | some i =>
    have any : (kvs.any fun kv => decide (kv.1 = k)) = true := any_of_findIdx_some (place ▸ at_)
    refine wpAny_updateDict ho hd (q _ ⟨_, _, ep, Heap.get?_update_self _ ho (Obj.isFreed_of_dict (Obj.data_mapDict hd _)), hc.mapDict _, Obj.data_mapDict hd _, ks.modify _ _, ?_, ?_⟩ (Heap.SameBut.update ..))
    · rw [stored, if_pos any]
      have hl : (es.toList.findIdx? fun e => (mixKind prog w).is k e.key) = some i := by
        rw [← at_]
        obtain ⟨l⟩ := es
        simp
      have z := hp.modify nd hl v
      obtain ⟨l⟩ := es
      simpa using z
    · rw [stored, if_pos any, keys_map_store]
      exact nd
  | none =>
    have out : k ∉ kvs.map (·.1) := not_mem_of_findIdx_none (place ▸ at_)
    have any : ¬ (kvs.any fun kv => decide (kv.1 = k)) = true := fun z => by
      obtain ⟨kv, m, e⟩ := List.any_eq_true.mp z
      exact out (List.mem_map.mpr ⟨kv, m, of_decide_eq_true e⟩)
    refine wpAny_updateDictKeys (hz := size) ho hd (q _ ⟨_, _, ep + 1, Heap.get?_update_self _ ho (Obj.isFreed_of_dict (Obj.data_mapDictKeys hd _)), hc.mapDictKeys _, Obj.data_mapDictKeys hd _, ks.push hk _, ?_, ?_⟩ (Heap.SameBut.update ..))
    · rw [stored, if_neg any]
      have z := hp.append hk ((mixKind prog w).hash k) v
      obtain ⟨l⟩ := es
      simpa using z
    · rw [stored, if_neg any, List.map_append, List.nodup_append]
      refine ⟨nd, by simp, fun x hx y hy => ?_⟩
      have e : y = k := by simpa using hy
      rw [e]
      rintro rfl
      exact out hx
theorem merge_dict {d a : Addr} {kvs more : List (Key × Value)} {Q : Unit → Shared → Prop} (ne : d ≠ a) (nS : (a == sysModules) = false) (hd : s.heap.DictOf (mixKind prog w) d kvs) (ha : s.heap.DictOf (mixKind prog w) a more) (hz : kvs.length + more.length ≤ sizeLine)
    (q : ∀ h', h'.DictOf (mixKind prog w) d (merged kvs more) → h'.DictOf (mixKind prog w) a more → Heap.SameBut d s.heap h' → Q () { s with heap := h' }) : wpAny (model prog w) A (mergeMapping d (.ref a) false) Q E s := by
  obtain ⟨od, esd, epd, hod, hcd, hdd, hkd, hpd, hnd⟩ := id hd
  obtain ⟨oa, esa, epa, hoa, hca, hda, hka, hpa, hna⟩ := id ha
  have len : more.length = esa.size := by
    rw [← hpa.length]
    simp
  have noref : ∀ (i : Nat) (h : i < esa.size), ∀ b, esa[i].key ≠ .ref b := fun i h b z => by
    obtain ⟨k, hk, _⟩ := hka esa[i] (Array.getElem_mem h)
    have hk : keyIs k esa[i].key = true := hk
    rcases keyIs_shape hk with ⟨n, t, _, e⟩ | ⟨x, t, _, e⟩
    · rw [z] at e
      cases e
    · rw [z] at e
      cases e
  have main : wpAny (model prog w) A (do
      let l ← dictEntries a
      let size : Nat := l.size
      let epoch ← dictEpoch a
      forIn (List.range size) PUnit.unit fun i (_ : PUnit) => (do
        let l' ← dictEntries a
        match l'[i]? with
        | some e => do
          holding [e.key, e.val] (dictPut d e.hash e.key e.val)
          let ep' ← dictEpoch a
          if (ep' != epoch) = true then do
            (unsupported "dict.changed-during-merge" : Sem PUnit)
            pure (ForInStep.yield PUnit.unit)
          else pure (ForInStep.yield PUnit.unit)
        | _ => do
          (unsupported "dict.changed-during-merge" : Sem PUnit)
          pure (ForInStep.yield PUnit.unit) : Sem (ForInStep PUnit))
      pure ()) Q E s := by
    refine wpAny_bind (wpAny_dictEntries hoa hda (wpAny_bind (wpAny_dictEpoch hoa hda (wpAny_bind ?_))))
    refine wpAny_forIn_list _ (fun rest _ s' => ∃ h' i, s' = { s with heap := h' } ∧ rest = (List.range esa.size).drop i ∧ i ≤ esa.size ∧ h'.DictOf (mixKind prog w) d (merged kvs (more.take i)) ∧ h'.get? a = some oa ∧ Heap.SameBut d s.heap h')
      _ ?_ ?_ _ _ ⟨s.heap, 0, rfl, rfl, Nat.zero_le _, by simpa [merged] using hd, hoa, Heap.SameBut.refl _ _⟩
    · rintro x rest b s' ⟨h', i, rfl, hr, hi, hd', hoa', hs'⟩
      have lt : i < esa.size := by
        rcases Nat.lt_or_ge i esa.size with h | h
        · exact h
        · rw [List.drop_eq_nil_of_le (by rw [List.length_range]; exact h)] at hr
          cases hr
      rw [List.drop_eq_getElem_cons (by rw [List.length_range]; exact lt), List.getElem_range] at hr
      injection hr with e1 e2
      subst e1
      refine wpAny_bind (wpAny_dictEntries hoa' hda ?_)
      rw [Array.getElem?_eq_getElem lt]
      obtain ⟨⟨k, v⟩, hkv⟩ : ∃ kv, more[x]? = some kv := ⟨more[x]'(by omega), List.getElem?_eq_getElem _⟩
      obtain ⟨kk, vv⟩ := hpa.get? (e := esa[x]) (by simp [lt]) hkv
      obtain ⟨k', kk', hash⟩ := hka esa[x] (Array.getElem_mem lt)
      obtain rfl : k' = k := (mixKind prog w).inj _ _ _ kk' kk
      show wpAny _ _ (holding [esa[x].key, esa[x].val] (dictPut d esa[x].hash esa[x].key esa[x].val) >>= _) _ _ _
      rw [hash, vv]
      have mz : (merged kvs (more.take x)).length ≤ sizeLine := by
        have a1 := merged_length_le kvs (more.take x)
        have a2 : (more.take x).length ≤ more.length := by rw [List.length_take]; omega
        omega
      refine wpAny_bind (wpAny_holding (put_pair kk hd' mz fun h2 hd2 hs2 => ?_))
      have hoa2 : h2.get? a = some oa := (hs2.2 a (Ne.symm ne)).trans hoa'
      refine wpAny_bind (wpAny_dictEpoch hoa2 hda ?_)
      rw [if_neg (by simp)]
      exact wpAny_pure ⟨h2, x + 1, rfl, e2, lt, by rw [merged_take_succ kvs more x (k', v) hkv]; exact hd2, hoa2, hs'.trans hs2⟩
    · rintro b s' ⟨h', i, rfl, hr, hi, hd', hoa', hs'⟩
      have e : i = esa.size := by
        rcases Nat.lt_or_ge i esa.size with h | h
        · rw [List.drop_eq_getElem_cons (by rw [List.length_range]; exact h)] at hr
          cases hr
        · omega
      refine wpAny_pure (q h' ?_ ⟨oa, esa, epa, hoa', hca, hda, hka, hpa, hna⟩ hs')
      rw [e, ← len, List.take_length] at hd'
      exact hd'
  unfold mergeMapping
  refine wpAny_bind (wpAny_isInstance ha.typeIs isSubtype_dict_dict ?_)
  rw [if_pos rfl]
  refine wpAny_bind (wpAny_specialOf ha.typeIs F.slot_dict_iter.lookup (wpAny_bind (wpAny_pure ?_)))
  simp only [beq_self_eq_true]
  rw [if_neg (show ¬ ((a == sysModules) = true) by rw [nS]; decide)]
  refine wpAny_bind (wpAny_dictEntries hod hdd ?_)
  have main2 := main
  split
  · refine wpAny_bind (wpAny_dictEntries hoa hda ?_)
    rw [← Array.forIn_toList]
    refine wpAny_bind (wpAny_forIn_list _ (fun rest _ s' => s' = s ∧ ∀ e ∈ rest, ∀ b, e.key ≠ .ref b) _ ?_ ?_ _ _ ⟨rfl, fun e he b => ?_⟩)
    · rintro x rest b s' ⟨rfl, no⟩
      have nx := no x List.mem_cons_self
      split
      · rename_i b e
        exact absurd e (nx b)
      · exact wpAny_pure ⟨rfl, fun e he => no e (List.mem_cons_of_mem _ he)⟩
    · rintro b s' ⟨rfl, _⟩
      exact main
    · obtain ⟨i, hi, e1⟩ := List.mem_iff_getElem.mp he
      have hi2 : i < esa.size := by simpa using hi
      have z := noref i hi2 b
      rw [← e1]
      simpa using z
  · exact main
end
end DStar
set_option Elab.async false
set_option linter.all false
set_option maxRecDepth 100000
set_option maxHeartbeats 4000000
/-! {**d, k: v} as a rule -/
namespace DStar
open PySem PySem.Spec PyProof.Rows PySem.Calls L2
def tStar1 (td tk tv : TE) : TE := fun σ H Q => ∀ p, H p = none → td σ (upd H p (.dK [])) fun x H1 => ∃ (a : Addr) (kvs : List (Key × V)), x = .ref a ∧ Rd H1 a (.dK kvs) ∧ a ≠ p ∧ H1 p = some (.dK []) ∧ kvs.length < sizeLine ∧
  ∀ q, upd H1 p (.dK kvs) q = none → tk σ (upd (upd H1 p (.dK kvs)) q (.dK [])) fun xk H2 => ∃ key, xk = kV key ∧ tv σ H2 fun v H3 => H3 p = some (.dK kvs) ∧ H3 q = some (.dK []) ∧ Q (.ref p) (upd (upd H3 q (.dK [(key, v)])) p (.dK (putK kvs key v)))
section
variable {X : Cx} {d k v : Expr} {td tk tv : TE} {pos : Pos}
theorem pe_star1 (hd : PE X d td) (hk : PE X k tk) (hv : PE X v tv) : PE X (.Dict [none, some k] [d, v] pos) (tStar1 td tk tv) := by
  constructor
  intro pins s σ H Q I h
  rw [arm_eval_Dict]
  refine wpAny_bind (wpAny_standAt ?_)
  show wpAny _ _ (dictDisplay [(none, do let x ← eval d X.env; standAt pos; pure x), (some (eval k X.env), do let x ← eval v X.env; standAt pos; pure x)]) _ _ s
  unfold dictDisplay
  simp only [List.forIn_cons, List.forIn_nil, List.isEmpty_nil, if_true, pure_bind]
  have hn := I.hok.fresh (Nat.le_refl s.heap.objs.size)
  have I1 := I.laid (a := s.heap.objs.size) (o := .dK []) (h' := s.heap.push { cls := .type "dict", data := .dict #[] }) (t' := s.toks) (fun _ _ q => Heap.get?_push_of_some _ q) (Nat.le_refl _) (dk_empty s.heap I.big)
  generalize ep : s.heap.objs.size = p at hn I1
  refine wpAny_bind (wpAny_bind (wpAny_bind (wpAny_alloc ?_)))
  rw [ep]
  refine wpAny_bind (wpAny_holding (wpAny_bind (thn (hd.run pins _ σ _ _ I1 (h _ hn)) ?_)))
  rintro u s2 ⟨x, H1, I2, rx, a, kvs, rfl, ha, hap, hp, hz, q2⟩
  obtain rfl : u = Value.ref a := rx
  refine wpAny_bind (wpAny_standAt (wpAny_pure ?_))
  obtain ⟨z1, hs1, vs1, r1, dd1⟩ := dk_of I2.hok hp
  cases r1
  obtain ⟨z2, hs2, vs2, r2, dd2⟩ := dk_rd I2.hok ha
  have nd2 : (vs2.map (·.1)).Nodup := let ⟨_, _, _, _, _, _, _, _, n⟩ := dd2; n
  have l2 := r2.length
  refine wpAny_bind (wpAny_onRaise (wpAny_tryCatch (wpAny_onRaise (wpAny_holding (merge_dict (Ne.symm hap) hs2 dd1 dd2 (by rw [List.length_nil, ← l2]; omega) fun h3 dp3 da3 sb3 => ?_)))))
  rw [merged_nil_of_nodup vs2 nd2] at dp3
  have he3 : ∃ q, h3.get? p = some q := let ⟨q, _, _, hq, _⟩ := dp3; ⟨q, hq⟩
  have I3 : L2.Inv X pins σ (upd H1 p (.dK kvs)) { s2 with heap := h3, toks := s2.toks } := d_write I2 (by rw [hp]; exact True.intro) sb3 he3 (dk_new z2 hs1 r2 dp3)
  refine wpAny_pure ?_
  dsimp only
  rw [if_neg (by simp)]
  refine wpAny_bind (wpAny_pure (wpAny_pure ?_))
  dsimp only
  refine wpAny_bind ?_
  rw [if_neg (by simp)]
  refine wpAny_bind (wpAny_holding ?_)
  show wpAny _ _ (subDict [(eval k X.env, do let x ← eval v X.env; standAt pos; pure x)]) _ _ _
  unfold subDict
  have hn3 := I3.hok.fresh (Nat.le_refl h3.objs.size)
  have I4 := I3.laid (a := h3.objs.size) (o := .dK []) (h' := h3.push { cls := .type "dict", data := .dict #[] }) (t' := s2.toks) (fun _ _ q => Heap.get?_push_of_some _ q) (Nat.le_refl _) (dk_empty h3 I3.big)
  refine wpAny_bind (wpAny_alloc ?_)
  generalize eq : h3.objs.size = q at hn3 I4
  have q4 := q2 q hn3
  refine wpAny_bind (wpAny_holding ?_)
  rw [if_pos (by simp)]
  unfold evalPairs
  refine wpAny_bind (wpAny_bind (thn (hk.run pins _ σ _ _ I4 q4) ?_))
  rintro uk s5 ⟨xk, H2, I5, rk, key, rfl, q5⟩
  refine wpAny_bind (wpAny_holding (wpAny_bind (thn (hv.run pins _ σ _ _ I5 q5) ?_)))
  rintro uv s6 ⟨xv, H3, I6, rv, hp6, hq6, q6⟩
  refine wpAny_bind (wpAny_standAt (wpAny_pure ?_))
  show wpAny _ _ (holding [uk, uv] (pure []) >>= _) _ _ _
  refine wpAny_bind (wpAny_holding (wpAny_pure (wpAny_pure ?_)))
  refine wpAny_holding ?_
  simp only [List.forIn_cons, List.forIn_nil]
  obtain ⟨z7, hs7, vs7, r7, dd7⟩ := dk_of I6.hok hp6
  obtain ⟨z8, hs8, vs8, r8, dd8⟩ := dk_of I6.hok hq6
  cases r8
  have isk : (mixKind X.prog X.w).is key uk = true := kV_is (P := X.prog) (w := X.w) rk
  have npq : p ≠ q := fun z => by
    rw [z, hq6] at hp6
    cases hp6
    rw [z] at hn3
    rw [upd_same] at hn3
    cases hn3
  refine wpAny_bind (wpAny_bind (wpAny_bind (wpAny_dictSet_pairs (knd := mixKind X.prog X.w) (k := key) isk dd8 (fun h7 d7 sb7 => ?_) (by simp))))
  have e7 : ∃ z, h7.get? q = some z := let ⟨z, _, _, hz, _⟩ := d7; ⟨z, hz⟩
  have e8 : stored ([] : List (Key × Value)) key uv = [(key, uv)] := rfl
  rw [e8] at d7
  have one : KV [(key, xv)] [(key, uv)] := .cons ⟨rfl, rv⟩ .nil
  have I7 : L2.Inv X pins σ (upd H3 q (.dK [(key, xv)])) { s6 with heap := h7, toks := s6.toks + 1 } := d_write I6 (by rw [hq6]; exact True.intro) sb7 e7 (dk_new (by show 1 ≤ sizeLine; decide) hs8 one d7)
  refine wpAny_pure (wpAny_pure (wpAny_pure (wpAny_pure ?_)))
  have hp7 : upd H3 q (.dK [(key, xv)]) p = some (.dK kvs) := by rw [upd_ne npq]; exact hp6
  obtain ⟨z9, hs9, vs9, r9, dd9⟩ := dk_of I7.hok hp7
  refine wpAny_bind (wpAny_onRaise (wpAny_holding (merge_dict npq hs8 dd9 d7 (by have := r9.length; simp only [List.length_singleton]; omega) fun h10 d10 _ sb10 => ?_)))
  have e10 : ∃ z, h10.get? p = some z := let ⟨z, _, _, hz, _⟩ := d10; ⟨z, hz⟩
  have st : merged vs9 [(key, uv)] = stored vs9 key uv := rfl
  rw [st] at d10
  have I10 : L2.Inv X pins σ (upd (upd H3 q (.dK [(key, xv)])) p (.dK (putK kvs key xv))) { s6 with heap := h10, toks := s6.toks + 1 } := d_write (s := { s6 with heap := h7, toks := s6.toks + 1 }) I7 (by rw [hp7]; exact True.intro) sb10 e10 (dk_new (by have := length_putK kvs key xv; omega) hs9 (r9.put key rv) d10)
  exact wpAny_pure (wpAny_pure ⟨.ref p, _, I10, rfl, q6⟩)
end
end DStar
set_option Elab.async false
set_option linter.all false
set_option maxRecDepth 100000
set_option maxHeartbeats 4000000
/-! defs, methods and classes that may raise -/
namespace Q
open PySem L2 PySem.Spec PyProof.Rows PySem.Calls PySem.OwnX
open Evl
/-- a def that may raise -/
structure ClX (P : Program) (w : World) (K : PySem.W.Frag) (mg : Str → Option Value) (base : Heap) (k : Nat) (x : Str) (sp : Sp) : Prop where
  ex : ∃ (f : Addr) (fd : FuncData) (ps : List Str), FnOk P w K mg base (L2.CX P w) k f fd ps sp ∧ mg x = some (.ref f) ∧ PySem.W.keepIn K (.ref f) = true ∧ Binds K fd ps []
/-- a method -/
structure Mt (P : Program) (w : World) (K : PySem.W.Frag) (mg : Str → Option Value) (base : Heap) (k : Nat) (C : Addr) (m : Str) (sp : Sp) : Prop where
  ex : ∃ (f : Addr) (fd : FuncData) (ps : List Str), Cls K C ∧ Meth K C m f ∧ FnOk P w K mg base CX0 k f fd ps sp ∧ Binds K fd ps []
/-- a method that may raise -/
structure MtX (P : Program) (w : World) (K : PySem.W.Frag) (mg : Str → Option Value) (base : Heap) (k : Nat) (C : Addr) (m : Str) (sp : Sp) : Prop where
  ex : ∃ (f : Addr) (fd : FuncData) (ps : List Str), Cls K C ∧ Meth K C m f ∧ FnOk P w K mg base (L2.CX P w) k f fd ps sp ∧ Binds K fd ps []
/-- a class whose making may raise -/
structure MqX (P : Program) (w : World) (K : PySem.W.Frag) (mg : Str → Option Value) (base : Heap) (k : Nat) (C : Addr) (sp : Sp) : Prop where
  ex : ∃ (f : Addr) (fd : FuncData) (ps : List Str), Mk K C f ∧ FnOk P w K mg base (L2.CX P w) k f fd ps sp ∧ Binds K fd ps []
/-- a property -/
structure Pq (P : Program) (w : World) (K : PySem.W.Frag) (mg : Str → Option Value) (base : Heap) (k : Nat) (C : Addr) (f : Str) (sp : Sp) : Prop where
  ex : ∃ (p g : Addr) (fd : FuncData) (ps : List Str), Cls K C ∧ PropOf K C f p g ∧ FnOk P w K mg base CX0 k g fd ps sp ∧ Binds K fd ps []
/-- what is raised goes on as E -/
abbrev Goes (X : Cx) (E : XK) : Prop := Passes (L2.CX X.prog X.w) X E
section
variable {X : Cx} {k j : Nat} {x m f : Str} {C : Addr} {sp : Sp} {p pos apos : Pos} {e o : Expr} {es : List Expr} {t : TA} {ta : TE} {E : XK}
theorem goes_of {W : WX} (tk : Takes X W) (h : ∀ cls d σ H, E cls d H → W cls d σ H) : Goes X E := passes_call tk h
theorem pe_clX (c : ClX X.prog X.w X.K X.mg X.base k x sp) (go : Goes X E) (hr : Room j X.A) (hk : k ≤ j) (hg : Gl X x) (ha : PA X (e :: es) t)
    (hdb : (x == ("__debug__" : Str)) = false := by decide) (he : starEach (e :: es) X.env = (false, eval e X.env) :: starEach es X.env := by rfl) (hpl : (backTo pos (starEach es X.env)).any (·.1) = false := by rfl) :
    PE X (.Call (.Name x p) (e :: es) [] pos) (tCall sp [] E t) := by
  obtain ⟨g, fd, ps, F, hm, kp, b⟩ := c.ex
  exact pe_call F (hr.mono hk) hg hm kp b .nil go ha hdb he hpl
theorem pe_mt0 {pl : Sem Bool} (c : Mt X.prog X.w X.K X.mg X.base k C m sp) (hr : Room j X.A) (hk : k ≤ j) (he : PE X o ta)
    (ht : eval (.Call (.Attribute o m apos) [] [] pos) X.env = (do
      let z ← eval o X.env
      standAt apos.atName
      let (g, front) ← holding [z] (getMethod z m pl)
      callWith pos g front (backTo pos (starEach [] X.env)) (backToKw pos (keywordEach [] X.env))) := by rfl) :
    PE X (.Call (.Attribute o m apos) [] [] pos) (tMeth C m sp [] E0 ta tNil) := by
  obtain ⟨g, fd, ps, h1, h2, F, b⟩ := c.ex
  exact pe_meth0 (pl := pl) he h1 h2 F (hr.mono hk) b .nil pass0 ht
theorem pe_mtX {pl : Sem Bool} (c : MtX X.prog X.w X.K X.mg X.base k C m sp) (go : Goes X E) (hr : Room j X.A) (hk : k ≤ j) (he : PE X o ta) (ha : PA X (e :: es) t)
    (hst : starEach (e :: es) X.env = (false, eval e X.env) :: starEach es X.env := by rfl) (hpl : (backTo pos (starEach es X.env)).any (·.1) = false := by rfl)
    (hm : eval (.Call (.Attribute o m apos) (e :: es) [] pos) X.env = (do
      let z ← eval o X.env
      standAt apos.atName
      let (g, front) ← holding [z] (getMethod z m pl)
      callWith pos g front (backTo pos (starEach (e :: es) X.env)) (backToKw pos (keywordEach [] X.env))) := by rfl) :
    PE X (.Call (.Attribute o m apos) (e :: es) [] pos) (tMeth C m sp [] E ta t) := by
  obtain ⟨g, fd, ps, h1, h2, F, b⟩ := c.ex
  exact pe_meth (pl := pl) he h1 h2 F (hr.mono hk) b .nil go ha hst hpl hm
theorem pe_mqX (c : MqX X.prog X.w X.K X.mg X.base k C sp) (go : Goes X E) (hr : Room j X.A) (hk : k + 1 ≤ j) (hg : Gl X x) (hm : X.mg x = some (.ref C)) (ha : PA X (e :: es) t) (hdb : (x == ("__debug__" : Str)) = false := by decide)
    (he : starEach (e :: es) X.env = (false, eval e X.env) :: starEach es X.env := by rfl) (hpl : (backTo pos (starEach es X.env)).any (·.1) = false := by rfl) : PE X (.Call (.Name x p) (e :: es) [] pos) (tMake C sp [] E t) := by
  obtain ⟨g, fd, ps, M, F, b⟩ := c.ex
  exact pe_make M F (hr.mono hk) hg hm b .nil go ha hdb he hpl
theorem pe_pq (c : Pq X.prog X.w X.K X.mg X.base k C f sp) (hr : Room j X.A) (hk : k + 1 ≤ j) (he : PE X e ta) (hab : attributeBase e f X.env (eval e X.env) = eval e X.env := by rfl) : PE X (.Attribute e f pos) (tProp C sp [] E0 ta) := by
  obtain ⟨q, g, fd, ps, h1, h2, F, b⟩ := c.ex
  exact pe_prop he h1 h2 F (hr.mono hk) b .nil pass0 hab
/-- a thing that isn't written any more stands fast -/
def tFast (te : TE) : TE := fun σ H Q => te σ H fun v H1 => ∃ a u, v = .ref a ∧ H1 a = some u ∧ Mut (some u) ∧ ∀ od, Q v (upd H1 a (.frz od u))
theorem pe_fast (h : PE X e ta) : PE X e (tFast ta) := by
  refine ⟨fun pins s σ H Q I hw => thn (h.run pins s σ H _ I hw) fun v s1 ⟨z, H1, I1, r, a, u, ez, ha, mu, q⟩ => ?_⟩
  obtain ⟨od, I2⟩ := I1.lock ha mu
  exact ⟨z, _, I2, r, q od⟩
/-- an own error without an __init__ of its own, over ValueError -/
structure ErT (K : PySem.W.Frag) (mg : Str → Option Value) (x : Str) (C : Addr) (bmB : List Value) : Prop where
  g : mg x = some (.ref C)
  q : PySem.W.excIn K C bmB "BaseException.__new__" = true
  kC : PySem.W.keepIn K (.ref C) = true
  be : PySem.W.subIn K (.ref C) (.type "BaseException") = some true
  ty : PySem.W.typeIn K (.ref C) = some (.type "type")
end
end Q
set_option Elab.async false
set_option linter.all false
set_option maxRecDepth 100000
set_option maxHeartbeats 4000000
/-! in and len of an own class; plain values; keys walked; the errors -/
namespace Q
open PySem L2 PySem.Spec PyProof.Rows PySem.Calls PySem.OwnX
open Evl
section
variable {X : Cx} {pins : List (Addr × Obj)} {σ : L2.St} {H : Hp} {s : Shared} {n k j : Nat} {C f : Addr} {fd : FuncData} {ps : List Str} {sp : Sp} {A1 : Around} {m : Str}
theorem call_own {EO : Value → Shared → Prop} {vs : List V} {us : List Value} {Q : VK} (sb : Sub X n A1) (F : FnOk X.prog X.w X.K X.mg X.base CX0 n f fd ps sp) (hb : Binds X.K fd ps []) (I : Inv X pins σ H s) (r : Vals vs us) (hsp : sp vs H Q E0) :
    wpAny (model X.prog X.w) A1 (call (.ref f) us) (EP X pins σ Q) EO s := by
  have e0 : Env0 X.prog X.w X.K X.mg X.base A1 X.stack s H := by
    have e := I.env0
    exact ⟨by rw [sb.fr]; exact e.frames, e.mod, e.bs, e.bsz, e.funs, e.frf, e.hok, e.bare⟩
  have hl := F.len _ _ _ _ hsp
  refine wpAny_call (codeAny_mono (F.run A1 X.stack s H ⟨us, []⟩ us vs Q E0 sb.room e0 (by
    have := hb s us I.kIn (by simpa using r.length.symm.trans hl)
    simpa using this) r hsp) fun r s' hq => ?_)
  cases r with
  | error e => exact False.elim hq
  | ok fl =>
    cases fl with
    | ret u =>
      obtain ⟨v, H', I', rv, q⟩ := I.after hq
      exact ⟨v, H', I', rv, q⟩
    | next => exact False.elim hq
    | brk => exact False.elim hq
    | cont => exact False.elim hq
/-- an instance of the class stands at a -/
def InsAt (H : Hp) (C a : Addr) : Prop := ∃ dx fs, H a = some (.ins C dx fs)
theorem ins_at (I : Inv X pins σ H s) {a : Addr} (h : InsAt H C a) : ∃ ox od, PySem.W.InstAt s.heap a ox C od := by
  obtain ⟨dx, fs, ha⟩ := h
  obtain ⟨mA, J, _⟩ := ins_get I.hok ha
  obtain ⟨od, J, _⟩ := J.look
  exact ⟨_, _, J⟩
/-- x not in o -/
def rNotInOwn (C : Addr) (sp : Sp) : R2 := fun x y H Q => ∃ a, y = .ref a ∧ InsAt H C a ∧ sp [.ref a, x] H (fun v H' => ∃ b, v = .bl b ∧ Q (.bl (!b)) H') E0
theorem op_notInOwn (c : Mt X.prog X.w X.K X.mg X.base k C "__contains__" sp) (hr : Room j X.A) (hk : k ≤ j) : OpR X (compareOp .NotIn) (rNotInOwn C sp) := by
  intro pins s σ H x y v u Q I rx ry h
  obtain ⟨a, rfl, ha, h⟩ := h
  cases ry
  obtain ⟨f, fd, ps, h1, h2, F, b⟩ := c.ex
  obtain ⟨ox, od, J⟩ := ins_at I ha
  obtain ⟨m, hF⟩ := I.fr
  refine PySem.W.notIn_K hF I.ok.mod.kin J h2.at_ h2.fn ?_
  refine wpAny_mono (call_own (⟨hr.mono hk, rfl⟩ : Sub X k X.A) F b I (vs := [.ref a, x]) (.cons rfl (.cons rx .nil)) h) (fun r s' q => ?_) fun _ _ z => z
  obtain ⟨z, H', I', rz, bb, rfl, q⟩ := q
  cases rz
  exact wpAny_truthy_bool ⟨.bl (!bb), H', I', rfl, q⟩
/-- len(o) -/
def rLenOwn (C : Addr) (sp : Sp) : List V → Hp → VK → Prop := fun xs H Q => ∃ a, xs = [.ref a] ∧ InsAt H C a ∧ sp [.ref a] H (fun v H' => ∃ n : Nat, v = .int (n : Int) ∧ (n : Int) < 2 ^ 63 ∧ Q (.int (n : Int)) H') E0
theorem len_own {EO : Value → Shared → Prop} {Q : VK} {a : Addr} {A1 : Around} (c : Mt X.prog X.w X.K X.mg X.base k C "__len__" sp) (sb : Sub X (k + 1) A1) (I : Inv X pins σ H s) (h : rLenOwn C sp [.ref a] H Q) : wpAny (model X.prog X.w) A1 (call (.builtin "len") [.ref a]) (EP X pins σ Q) EO s := by
  obtain ⟨a', e, ha, h⟩ := h
  cases e
  obtain ⟨f, fd, ps, h1, h2, F, b⟩ := c.ex
  obtain ⟨ox, od, J⟩ := ins_at I ha
  obtain ⟨m, hF⟩ := I.fr
  refine PySem.W.len_K hF I.ok.mod.kin J h2.at_ h2.fn ?_
  refine wpAny_mono (call_own sb.in1 F b I (vs := [.ref a]) (.cons rfl .nil) h) (fun r s' q => ?_) fun _ _ z => z
  obtain ⟨z, H', I', rz, n, rfl, hn, q⟩ := q
  obtain ⟨t, rfl⟩ := rz
  exact ⟨⟨by omega, hn⟩, .int (n : Int), H', Inv.tok I' _, ⟨_, rfl⟩, q⟩
theorem cr_lenOwn (c : Mt X.prog X.w X.K X.mg X.base k C "__len__" sp) (hr : Room j X.A) (hk : k + 1 ≤ j) : CallR X (.builtin "len") (rLenOwn C sp) := by
  intro pins s σ H xs us Q I rv h
  obtain ⟨a, rfl, _⟩ := id h
  obtain ⟨u, rfl, ru⟩ := rv.one
  cases ru
  exact len_own c ⟨hr.mono hk, rfl⟩ I h
/-- len(d) -/
theorem d_lenR : CallR X (.builtin "len") (fun xs H Q => ∃ a kvs, xs = [V.ref a] ∧ Rd H a (.dK kvs) ∧ Q (.int kvs.length) H) := by
  intro pins s σ H xs us Q I r h
  obtain ⟨a, kvs, rfl, ha, q⟩ := h
  obtain ⟨u, rfl, ru⟩ := vals1 r
  cases ru
  exact d_len I ha fun t s' I' => ⟨.int kvs.length, H, I', ⟨t, rfl⟩, q⟩
end
/-- an expression that is never reached -/
def tNo : TE := fun _ _ _ => False
theorem pe_never {X : Cx} {e : Expr} : PE X e tNo := ⟨fun pins s σ H Q I h => h.elim⟩
/-! plain values and their kinds -/
inductive Kd where
  | non | bl | int | str | lst | tup | dct
def Kd.nm : Kd → String
  | .non => "NoneType" | .bl => "bool" | .int => "int" | .str => "str" | .lst => "list" | .tup => "tuple" | .dct => "dict"
inductive Pv (H : Hp) : V → Kd → Prop where
  | non : Pv H .non .non
  | bl (b : Bool) : Pv H (.bl b) .bl
  | int (i : Int) : Pv H (.int i) .int
  | str (z : Str) : Pv H (.str z) .str
  | lst {a : Addr} {xs : List V} (h : H a = some (.lst xs)) : Pv H (.ref a) .lst
  | tup {a : Addr} {xs : List V} (h : H a = some (.tup xs)) : Pv H (.ref a) .tup
  | dct {a : Addr} {o : Obj} {kvs : List (Key × V)} (h : H a = some (.frz o (.dK kvs))) : Pv H (.ref a) .dct
theorem Pv.by {H H' : Hp} {v : V} {k : Kd} (h : Pv H v k) (e : ∀ a o, H a = some o → (∀ ps, o ≠ .tbl ps) → H' a = some o) : Pv H' v k := by
  cases h with
  | non => exact .non
  | bl b => exact .bl b
  | int i => exact .int i
  | str z => exact .str z
  | lst h => exact .lst (e _ _ h fun _ z => nomatch z)
  | tup h => exact .tup (e _ _ h fun _ z => nomatch z)
  | dct h => exact .dct (e _ _ h fun _ z => nomatch z)
theorem Pv.mono {H H' : Hp} (e : Ex H H') {v : V} {k : Kd} (h : Pv H v k) : Pv H' v k := h.by fun _ _ q _ => e _ _ q
theorem Pv.ty {K : PySem.W.Frag} {H : Hp} {v : V} {k : Kd} (h : Pv H v k) : TyX K H v (.type k.nm) := by
  cases h with
  | non => exact .base .non
  | bl b => exact .base (.bl b)
  | int i => exact .base (.int i)
  | str z => exact .base (.str z)
  | lst h => exact .base (.lst h)
  | tup h => exact .base (.tup h)
  | dct h => exact .fDict h
/-- isinstance(v, T) -/
def Kd.is (k : Kd) (T : String) : Bool := k.nm == T || (k.nm == "bool" && T == "int")
theorem kit_kd {K : PySem.W.Frag} {T : String} (h : T = "int" ∨ T = "bool" ∨ T = "str" ∨ T = "tuple" ∨ T = "dict") (k : Kd) : PySem.W.kitOne K (.type k.nm) (.type T) = some (k.is T) := by
  rcases h with rfl | rfl | rfl | rfl | rfl <;> cases k <;> exact kit_ty (by decide +kernel)
/-- no plain value is of the class -/
def NoI (K : PySem.W.Frag) (C : Addr) : Prop := ∀ k : Kd, PySem.W.kitOne K (.type k.nm) (.ref C) = some false
section
variable {K : PySem.W.Frag} {σ : L2.St} {H : Hp} {ta : TE} {v : V} {k : Kd} {C : Addr}
theorem ev_isT {T : String} (hT : T = "int" ∨ T = "bool" ∨ T = "str" ∨ T = "tuple" ∨ T = "dict") (h : Ev ta σ H v) (p : Pv H v k) : Ev (tCB (rIsi K) (tCons ta (tCons (tC (.ty T)) tNil))) σ H (.bl (k.is T)) :=
  ev_cb (ea_cons h (ea_cons ev_c ea_nil)) fun H1 e1 Q q => ⟨_, _, _, _, _, rfl, .ty _, (p.mono e1).ty, kit_kd hT k, q H1 (Ex.refl _)⟩
theorem ev_isNo (n : NoI K C) (h : Ev ta σ H v) (p : Pv H v k) : Ev (tCB (rIsi K) (tCons ta (tCons (tC (.ref C)) tNil))) σ H (.bl false) :=
  ev_cb (ea_cons h (ea_cons ev_c ea_nil)) fun H1 e1 Q q => ⟨_, _, _, _, _, rfl, .own _, (p.mono e1).ty, n k, q H1 (Ex.refl _)⟩
theorem ev_isYes (c : C8.InsC K C) {a dx : Addr} {fs : List (Str × V)} (h : Ev ta σ H (.ref a)) (ha : H a = some (.ins C dx fs)) : Ev (tCB (rIsi K) (tCons ta (tCons (tC (.ref C)) tNil))) σ H (.bl true) :=
  ev_cb (ea_cons h (ea_cons ev_c ea_nil)) fun H1 e1 Q q => ⟨_, _, _, _, _, rfl, .own _, .base (.ins (e1 _ _ ha) c.cl c.ha c.hn c.htk c.hm), c.me, q H1 (Ex.refl _)⟩
/-! keys -/
def keyD : Key → PyData
  | .inl i => .int i
  | .inr s => .str s
theorem td_key {H : Hp} (k : Key) : TD1 H (kV k) (keyD k) := by
  cases k with
  | inl i => exact TDs.int i .nil
  | inr s => exact TDs.str s .nil
theorem key_td {H : Hp} {v : V} {k : Key} (h : TD1 H v (keyD k)) : v = kV k := by
  cases k with
  | inl i => exact TD1.int h
  | inr s => exact TD1.str h
theorem ei_keys {d : Addr} {o : Obj} {kvs : List (Key × V)} (h : Ev ta σ H (.ref d)) (hd : H d = some (.frz o (.dK kvs))) : EvI (iKeys ta) σ H (kvs.map fun kv => keyD kv.1) := fun H1 e R q => h H1 e _ fun H2 e2 => by
  have hd2 := (e.trans e2) _ _ hd
  refine ⟨d, o, rfl, .inl ⟨kvs, hd2, q _ H2 e2 ⟨_, _, by rw [List.length_map]; exact walk_keys (d := d) (o := o) (kvs := kvs), fun H' e' => e' _ _ hd2, fun i x H3 H4 hi e3 y => ?_⟩⟩⟩
  obtain ⟨rfl, k, v, hk, rfl⟩ := y
  exact ⟨Ex.refl _, keyD k, by rw [List.getElem?_map, hk]; rfl, td_key k⟩
end
/-! errors -/
def veTail : List Value := ["ValueError", "Exception", "BaseException", "object"].map Value.type
structure ErrE (nm : Str) (K : PySem.W.Frag) (mg : Str → Option Value) (C : Addr) : Prop where
  x : PySem.W.excIn K C veTail "ValueError.__new__" = true
  g : mg nm = some (.ref C)
  kC : PySem.W.keepIn K (.ref C) = true
  be : PySem.W.subIn K (.ref C) (.type "BaseException") = some true
  typ : PySem.W.typeIn K (.ref C) = some (.type "type")
def fldA (f : Str) (vs : List V) : List (Str × V) := match vs with | [v] => [(f, v)] | _ => []
structure NumE (nm f : Str) (P : Program) (w : World) (K : PySem.W.Frag) (mg : Str → Option Value) (C : Addr) : Prop where
  g : mg nm = some (.ref C)
  t : ∃ fI newId B tl, OwnTxt K C fI tl newId ∧ (∃ initId bmF, ExcBaseFacts B newId initId bmF) ∧ Behind B tl ∧ Keeps P w K C fI 1 (fldA f)
  fr : PySem.W.findIn K (.ref C) f = some none
/-- an error of the class C flies, with v as its f -/
def Rz (C : Addr) (f : Str) (E : XK) (H : Hp) (v : V) : Prop := ∀ d H', H' d = some (.xd [(f, v)]) → Ex H H' → E (.ref C) (some d) H'
/-- an error of the class C flies -/
def Rs (C : Addr) (E : XK) (H : Hp) : Prop := ∀ H', Ex H H' → E (.ref C) none H'
theorem Rz.mono {C : Addr} {f : Str} {E : XK} {H H' : Hp} {v : V} (h : Rz C f E H v) (e : Ex H H') : Rz C f E H' v := fun d H2 h2 e2 => h d H2 h2 (e.trans e2)
theorem Rs.mono {C : Addr} {E : XK} {H H' : Hp} (h : Rs C E H) (e : Ex H H') : Rs C E H' := fun H2 e2 => h H2 (e.trans e2)
/-- the module's names -/
structure TN (mg : Str → Option Value) : Prop where
  isi : mg "isinstance" = none
  int : mg "int" = none
  bool : mg "bool" = none
  str : mg "str" = none
  tuple : mg "tuple" = none
  dict : mg "dict" = none
  list : mg "list" = none
  len : mg "len" = none
  all : mg "all" = none
  sorted : mg "sorted" = none
  range : mg "range" = none
  max : mg "max" = none
  min : mg "min" = none
  repr : mg "repr" = none
  gcd : mg "gcd" = some (.builtin "math.gcd")
end Q
set_option Elab.async false
set_option linter.all false
set_option maxRecDepth 100000
set_option maxHeartbeats 4000000
/-! whole numbers and points: any values -/
namespace PM
def gc (x y w : Int) : Int := ((Nat.gcd (Nat.gcd x.natAbs y.natAbs) w.natAbs : Nat) : Int)
end PM
namespace Q
open PySem L2 PySem.Spec PyProof.Rows PySem.Calls PySem.OwnX
open Evl
theorem args_gcd3 (a b c : Value) : argsOk "math.gcd" ⟨[a, b, c], []⟩ := by unfold argsOk; kernel_rfl
theorem run_gcd3 (a : Int) (t : Tok) (b : Int) (u : Tok) (c : Int) (v : Tok) :
    Gives (Builtin.«math.gcd» ⟨[.int a t, .int b u, .int c v], []⟩) (.int ((((Nat.gcd 0 a.natAbs).gcd b.natAbs).gcd c.natAbs : Nat) : Int)) :=
  .of_wp fun M A E s Q h => by obtain ⟨hp, g, d, tk, os⟩ := s; wp_walk; exact ⟨_, rfl, h⟩
section
variable {X : Cx}
def rGcd3 : List V → Hp → VK → Prop := fun vs H Q => ∃ a b c : Int, vs = [.int a, .int b, .int c] ∧ Q (.int (PM.gc a b c)) H
theorem cr_gcd3 : CallR X (.builtin "math.gcd") rGcd3 := by
  intro pins s σ H vs us Q I r h
  obtain ⟨a, b, c, rfl, q⟩ := h
  cases r with
  | cons r1 r =>
    cases r with
    | cons r2 r =>
      cases r with
      | cons r3 r =>
        cases r
        obtain ⟨t1, rfl⟩ := r1
        obtain ⟨t2, rfl⟩ := r2
        obtain ⟨t3, rfl⟩ := r3
        have g := run_gcd3 a t1 b t2 c t3
        rw [Nat.gcd_zero_left] at g
        exact call_function_meets PySem.W.MGF.kind_gcd PySem.W.MGF.plain_gcd PySem.W.MGF.entry_gcd (args_gcd3 _ _ _) g.meets ⟨.int _, H, I.tok _, ⟨_, rfl⟩, q⟩
end
abbrev sIsPt : Stmt := top 27
section
variable {K : PySem.W.Frag} {σ : L2.St} {H : Hp} {ta tb te : TE} {E : XK} {v : V} {d : PyData} {ds : List PyData} {D : Ends} {tz u : TS}
theorem pv_tup (x : TD1 H v (.tuple ds)) : Pv H v .tup := by
  obtain ⟨a, xs, rfl, ha, _⟩ := x.tup
  exact .tup ha
theorem et_tru (h : EvD te σ H (.tuple ds)) : EvT (fun σ H Q => te σ H fun x H' => ∃ k, TruV K x H' k ∧ Q k H') σ H (!ds.isEmpty) := fun H1 e Q q => h H1 e _ fun u H2 e2 x => by
  obtain ⟨a, xs, rfl, ha, t⟩ := x.tup
  refine ⟨!xs.isEmpty, .inr (.inl ⟨xs, SqT.of ha, rfl⟩), ?_⟩
  have l := t.len
  have e3 : xs.isEmpty = ds.isEmpty := by
    cases xs <;> cases ds <;> first | rfl | (simp at l)
  rw [e3]
  exact q H2 e2
theorem ev_inD (h1 : EvD ta σ H d) (h2 : EvD tb σ H (.tuple ds)) (s1 : PyData.canLayAll0 ds = true) (s2 : d.canLay0 = true) (h5 : PyData.depthAll ds ≤ 5) : Ev (tOp (rInDT K) ta tb) σ H (.bl (ds.any fun z => PyData.eqv z d)) := fun H1 e Q q =>
  h1 H1 e _ fun u H2 e2 a => h2 H2 (e.trans e2) _ fun v H3 e3 b => ⟨d, ds, (a.mono e3).dp, b.dp, s1, s2, h5, q H3 (e2.trans e3)⟩
theorem ev_lenSeq {a : Addr} {xs : List V} (h : Ev te σ H (.ref a)) (ha : H a = some (.lst xs)) : Ev (tCB (rLenS K) (tCons te tNil)) σ H (.int (xs.length : Int)) := ev_len h (SqL.of ha)
theorem ev_lenTup (h : EvD te σ H (.tuple ds)) : Ev (tCB (rLenS K) (tCons te tNil)) σ H (.int (ds.length : Int)) := fun H1 e Q q => h H1 e _ fun u H2 e2 x => by
  obtain ⟨a, xs, rfl, ha, t⟩ := x.tup
  exact ⟨a, xs, rfl, .inr (SqT.of ha), by rw [t.len]; exact q H2 e2⟩
theorem q_yes {t : TT} {tu : TS} (h : EvT t σ H true) (k : ∀ H1, Ex H H1 → tu { D with nx := u D } σ H1) : tSeq (tIfS t tu tNext) u D σ H := q_when h (fun _ => k) fun z => nomatch z
end
theorem q_unp3 {K : PySem.W.Frag} {σ : L2.St} {H : Hp} {te : TE} {D : Ends} {tz : TS} {i1 i2 i3 : Nat} {d1 d2 d3 : PyData} (h : EvD te σ H (.tuple [d1, d2, d3])) (k : ∀ v1 v2 v3 H1, Ex H H1 → TD1 H1 v1 d1 → TD1 H1 v2 d2 → TD1 H1 v3 d3 → tz D (((σ.set i1 (some v1)).set i2 (some v2)).set i3 (some v3)) H1) : tSeq (tAsg te (gTup K 3 (gCons (gName i1) (gCons (gName i2) (gCons (gName i3) gNil))))) tz D σ H := h H (Ex.refl H) _ fun v H1 e x => by
  obtain ⟨a, xs, rfl, ha, y⟩ := x.tup
  obtain ⟨u1, y1, rfl, x1, y⟩ := y.inv
  obtain ⟨u2, y2, rfl, x2, y⟩ := y.inv
  obtain ⟨u3, y3, rfl, x3, y⟩ := y.inv
  cases y.inv0
  exact ⟨a, _, rfl, SqT.of ha, rfl, u1, _, rfl, u2, _, rfl, u3, _, rfl, rfl, k u1 u2 u3 H1 e x1 x2 x3⟩
/-- what any value is -/
inductive Tr where
  | int (i : Int) | bl (b : Bool) | str (s : Str) | non | obj | ins | tup (ts : List Tr)
inductive Trs (CS : Addr) (H : Hp) : List V → List Tr → Prop where
  | nil : Trs CS H [] []
  | int (i : Int) {xs : List V} {ts : List Tr} (t : Trs CS H xs ts) : Trs CS H (.int i :: xs) (.int i :: ts)
  | bl (b : Bool) {xs : List V} {ts : List Tr} (t : Trs CS H xs ts) : Trs CS H (.bl b :: xs) (.bl b :: ts)
  | str (s : Str) {xs : List V} {ts : List Tr} (t : Trs CS H xs ts) : Trs CS H (.str s :: xs) (.str s :: ts)
  | non {xs : List V} {ts : List Tr} (t : Trs CS H xs ts) : Trs CS H (.non :: xs) (.non :: ts)
  | obj {v : V} {k : Kd} {xs : List V} {ts : List Tr} (p : Pv H v k) (hk : k = .lst ∨ k = .dct) (t : Trs CS H xs ts) : Trs CS H (v :: xs) (.obj :: ts)
  | ins {a : Addr} {xs : List V} {ts : List Tr} (h : InsAt H CS a) (t : Trs CS H xs ts) : Trs CS H (.ref a :: xs) (.ins :: ts)
  | tup {a : Addr} {ys : List V} {us : List Tr} {xs : List V} {ts : List Tr} (h : H a = some (.tup ys)) (m : Trs CS H ys us) (t : Trs CS H xs ts) : Trs CS H (.ref a :: xs) (.tup us :: ts)
def Tr1 (CS : Addr) (H : Hp) (v : V) (t : Tr) : Prop := Trs CS H [v] [t]
theorem Trs.mono {CS : Addr} {H H' : Hp} (e : Ex H H') {xs : List V} {ts : List Tr} (h : Trs CS H xs ts) : Trs CS H' xs ts := by
  induction h with
  | nil => exact .nil
  | int i _ ih => exact .int i ih
  | bl b _ ih => exact .bl b ih
  | str s _ ih => exact .str s ih
  | non _ ih => exact .non ih
  | obj p hk _ ih => exact .obj (p.mono e) hk ih
  | ins h _ ih =>
    obtain ⟨dx, fs, h⟩ := h
    exact .ins ⟨dx, fs, e _ _ h⟩ ih
  | tup h _ _ im ih => exact .tup (e _ _ h) im ih
theorem Tr1.mono {CS : Addr} {H H' : Hp} {v : V} {t : Tr} (e : Ex H H') (h : Tr1 CS H v t) : Tr1 CS H' v t := Trs.mono e h
theorem Trs.len {CS : Addr} {H : Hp} {xs : List V} {ts : List Tr} (h : Trs CS H xs ts) : xs.length = ts.length := by
  induction h with
  | nil => rfl
  | int i _ ih => rw [List.length_cons, List.length_cons, ih]
  | bl b _ ih => rw [List.length_cons, List.length_cons, ih]
  | str s _ ih => rw [List.length_cons, List.length_cons, ih]
  | non _ ih => rw [List.length_cons, List.length_cons, ih]
  | obj _ _ _ ih => rw [List.length_cons, List.length_cons, ih]
  | ins _ _ ih => rw [List.length_cons, List.length_cons, ih]
  | tup _ _ _ _ ih => rw [List.length_cons, List.length_cons, ih]
theorem Trs.inv {CS : Addr} {H : Hp} {xs : List V} {t : Tr} {ts : List Tr} (h : Trs CS H xs (t :: ts)) : ∃ v ys, xs = v :: ys ∧ Tr1 CS H v t ∧ Trs CS H ys ts := by
  cases h with
  | int i t => exact ⟨_, _, rfl, .int i .nil, t⟩
  | bl b t => exact ⟨_, _, rfl, .bl b .nil, t⟩
  | str s t => exact ⟨_, _, rfl, .str s .nil, t⟩
  | non t => exact ⟨_, _, rfl, .non .nil, t⟩
  | obj p hk t => exact ⟨_, _, rfl, .obj p hk .nil, t⟩
  | ins h t => exact ⟨_, _, rfl, .ins h .nil, t⟩
  | tup h m t => exact ⟨_, _, rfl, .tup h m .nil, t⟩
theorem Trs.inv0 {CS : Addr} {H : Hp} {xs : List V} (h : Trs CS H xs []) : xs = [] := by
  cases h with
  | nil => rfl
theorem Trs.cons {CS : Addr} {H : Hp} {v : V} {t : Tr} {xs : List V} {ts : List Tr} (h : Tr1 CS H v t) (k : Trs CS H xs ts) : Trs CS H (v :: xs) (t :: ts) := by
  cases h with
  | int i _ => exact .int i k
  | bl b _ => exact .bl b k
  | str s _ => exact .str s k
  | non _ => exact .non k
  | obj p hk _ => exact .obj p hk k
  | ins h _ => exact .ins h k
  | tup h m _ => exact .tup h m k
theorem Trs.at {CS : Addr} {H : Hp} : ∀ {ts : List Tr} {xs : List V} {i : Nat} {t : Tr}, Trs CS H xs ts → ts[i]? = some t → ∃ v, xs[i]? = some v ∧ Tr1 CS H v t
  | [], _, i, t, _, h => by simp at h
  | e :: ts, xs, i, t, k, h => by
    obtain ⟨v, ys, rfl, hv, ht⟩ := k.inv
    match i, h with
    | 0, h =>
      cases h
      exact ⟨v, rfl, hv⟩
    | i + 1, h => exact Trs.at (i := i) ht (by simpa using h)
theorem Trs.to {CS : Addr} {H : Hp} {ts : List Tr} {xs : List V} {i : Nat} {v : V} (t : Trs CS H xs ts) (h : xs[i]? = some v) : ∃ d, ts[i]? = some d ∧ Tr1 CS H v d := by
  have hl := t.len
  have hi := (List.getElem?_eq_some_iff.mp h).1
  have e : ts[i]? = some (ts[i]'(by omega)) := List.getElem?_eq_getElem (by omega)
  obtain ⟨u, hu, x⟩ := t.at e
  rw [h] at hu
  cases hu
  exact ⟨_, e, x⟩
theorem Tr1.tup {CS : Addr} {H : Hp} {v : V} {us : List Tr} (h : Tr1 CS H v (.tup us)) : ∃ a ys, v = .ref a ∧ H a = some (.tup ys) ∧ Trs CS H ys us := by
  cases h with
  | tup h m _ => exact ⟨_, _, rfl, h, m⟩
theorem Tr1.mk {CS : Addr} {H : Hp} {a : Addr} {ys : List V} {us : List Tr} (h : H a = some (.tup ys)) (m : Trs CS H ys us) : Tr1 CS H (.ref a) (.tup us) := Trs.tup h m .nil
theorem Tr1.int {CS : Addr} {H : Hp} {v : V} {i : Int} (h : Tr1 CS H v (.int i)) : v = .int i := by
  cases h with
  | int i _ => rfl
/-- what is told, as any value is -/
inductive TrD : PyData → Tr → Prop where
  | int (i : Int) : TrD (.int i) (.int i)
  | bl (b : Bool) : TrD (.bool b) (.bl b)
  | str (s : Str) : TrD (.str s) (.str s)
  | non : TrD .none .non
  | nil : TrD (.tuple []) (.tup [])
  | cons {d : PyData} {t : Tr} {ds : List PyData} {ts : List Tr} (h : TrD d t) (k : TrD (.tuple ds) (.tup ts)) : TrD (.tuple (d :: ds)) (.tup (t :: ts))
theorem trs_of {CS : Addr} {H : Hp} {xs : List V} {ds : List PyData} (h : TDs H xs ds) : ∀ {ts : List Tr}, TrD (.tuple ds) (.tup ts) → Trs CS H xs ts := by
  induction h with
  | nil => intro ts k; cases k; exact .nil
  | int i _ ih =>
    intro ts k
    cases k with
    | cons h k =>
      cases h
      exact .int i (ih k)
  | str s _ ih =>
    intro ts k
    cases k with
    | cons h k =>
      cases h
      exact .str s (ih k)
  | bl b _ ih =>
    intro ts k
    cases k with
    | cons h k =>
      cases h
      exact .bl b (ih k)
  | non _ ih =>
    intro ts k
    cases k with
    | cons h k =>
      cases h
      exact .non (ih k)
  | tup h _ _ im ih =>
    intro ts k
    cases k with
    | cons h1 k =>
      cases h1 with
      | nil => exact .tup h (im .nil) (ih k)
      | cons h2 k2 => exact .tup h (im (.cons h2 k2)) (ih k)
theorem tr1_of {CS : Addr} {H : Hp} {v : V} {d : PyData} {t : Tr} (h : TD1 H v d) (k : TrD d t) : Tr1 CS H v t := trs_of h (.cons k .nil)
/-- isinstance(v, T) -/
def Tr.is : Tr → String → Bool
  | .int _, T => T == "int"
  | .bl _, T => T == "bool" || T == "int"
  | .tup _, T => T == "tuple"
  | .str _, _ => false
  | .non, _ => false
  | .obj, _ => false
  | .ins, _ => false
/-- a shape is no plain value -/
structure NoP (K : PySem.W.Frag) (CS : Addr) : Prop where
  int : PySem.W.kitOne K (.ref CS) (.type "int") = some false
  bool : PySem.W.kitOne K (.ref CS) (.type "bool") = some false
  tuple : PySem.W.kitOne K (.ref CS) (.type "tuple") = some false
theorem NoP.of {K : PySem.W.Frag} {CS : Addr} (n : NoP K CS) {T : String} (hT : T = "int" ∨ T = "bool" ∨ T = "tuple") : PySem.W.kitOne K (.ref CS) (.type T) = some false := by
  rcases hT with rfl | rfl | rfl
  · exact n.int
  · exact n.bool
  · exact n.tuple
section
variable {K : PySem.W.Frag} {σ : L2.St} {H : Hp} {ta te : TE} {v : V} {t : Tr} {CS : Addr} {D : Ends} {tz : TS} {E : XK}
theorem ev_isTr {T : String} (hT : T = "int" ∨ T = "bool" ∨ T = "tuple") (n : NoP K CS) (c : C8.InsC K CS) (h : Ev ta σ H v) (p : Tr1 CS H v t) : Ev (tCB (rIsi K) (tCons ta (tCons (tC (.ty T)) tNil))) σ H (.bl (t.is T)) := by
  have hT5 : T = "int" ∨ T = "bool" ∨ T = "str" ∨ T = "tuple" ∨ T = "dict" := by
    rcases hT with rfl | rfl | rfl
    · exact .inl rfl
    · exact .inr (.inl rfl)
    · exact .inr (.inr (.inr (.inl rfl)))
  have pl : ∀ {k : Kd}, Pv H v k → k.is T = t.is T → Ev (tCB (rIsi K) (tCons ta (tCons (tC (.ty T)) tNil))) σ H (.bl (t.is T)) := fun {k} q e => e ▸ ev_isT hT5 h q
  cases p with
  | int i _ => exact pl (.int i) (by rcases hT with rfl | rfl | rfl <;> simp [Kd.is, Kd.nm, Tr.is])
  | bl b _ => exact pl (.bl b) (by rcases hT with rfl | rfl | rfl <;> simp [Kd.is, Kd.nm, Tr.is])
  | str s _ => exact pl (.str s) (by rcases hT with rfl | rfl | rfl <;> simp [Kd.is, Kd.nm, Tr.is])
  | non _ => exact pl .non (by rcases hT with rfl | rfl | rfl <;> simp [Kd.is, Kd.nm, Tr.is])
  | obj q hk _ => exact pl q (by rcases hk with rfl | rfl <;> rcases hT with rfl | rfl | rfl <;> simp [Kd.is, Kd.nm, Tr.is])
  | ins hi _ =>
    obtain ⟨dx, fs, ha⟩ := hi
    exact ev_cb (ea_cons h (ea_cons ev_c ea_nil)) fun H1 e1 Q q => ⟨_, _, _, _, _, rfl, .ty _, .base (.ins (e1 _ _ ha) c.cl c.ha c.hn c.htk c.hm), n.of hT, q H1 (Ex.refl _)⟩
  | tup hx m _ => exact pl (.tup hx) (by rcases hT with rfl | rfl | rfl <;> simp [Kd.is, Kd.nm, Tr.is])
def Tr.isInt : Tr → Bool
  | .int _ => true
  | _ => false
def Tr.isPt : Tr → Bool
  | .tup [.int x, .int y, .int w] => decide (1 ≤ w) && decide (PM.gc x y w = 1)
  | _ => false
def spIsInt (CS : Addr) : Sp := fun vs H Q _ => ∃ (v : V) (t : Tr), vs = [v] ∧ Tr1 CS H v t ∧ ∀ H', Ex H H' → Q (.bl t.isInt) H'
def spIsPt (CS : Addr) : Sp := fun vs H Q _ => ∃ (v : V) (t : Tr), vs = [v] ∧ Tr1 CS H v t ∧ ∀ H', Ex H H' → Q (.bl t.isPt) H'
theorem ev_isint (h : Ev te σ H v) (p : Tr1 CS H v t) : Ev (tCall (spIsInt CS) [] E (tCons te tNil)) σ H (.bl t.isInt) := ev_call (ea_cons h ea_nil) fun H1 e Q q E => ⟨_, _, rfl, p.mono e, fun H2 e2 => q H2 e2⟩
theorem ev_ispt (h : Ev te σ H v) (p : Tr1 CS H v t) : Ev (tCall (spIsPt CS) [] E (tCons te tNil)) σ H (.bl t.isPt) := ev_call (ea_cons h ea_nil) fun H1 e Q q E => ⟨_, _, rfl, p.mono e, fun H2 e2 => q H2 e2⟩
theorem ev_lenTr {us : List Tr} (h : Ev te σ H v) (p : Tr1 CS H v (.tup us)) : Ev (tCB (rLenS K) (tCons te tNil)) σ H (.int (us.length : Int)) := fun H1 e Q q => h H1 e _ fun H2 e2 => by
  obtain ⟨a, ys, rfl, ha, m⟩ := p.tup
  exact ⟨a, ys, rfl, .inr (SqT.of ((e.trans e2) _ _ ha)), by rw [m.len]; exact q H2 e2⟩
end
section
variable {P : Program} {w : World} {K : PySem.W.Frag} {mg : Str → Option Value} {base : Heap} {CS : Addr}
theorem scIsInt : FnScope ["value"] ["value"] (defScope sIsInt) := ⟨rfl, rfl, rfl, by decide +kernel, rfl, by decide +kernel, by decide +kernel⟩
theorem ok_isint {f : Addr} {fd : FuncData} (F : Fun K "is_integer" "is_integer" sIsInt f fd) (T : TN mg) (n : NoP K CS) (c : C8.InsC K CS) : FnOk P w K mg base CX0 1 f fd ["value"] (spIsInt CS) := by
  refine F.ok scIsInt (fun vs H Q E h => ?_) (fun cdv A outer s H vs Q E hr h => ?_)
  · obtain ⟨v, k, rfl, _⟩ := h
    rfl
  · obtain ⟨v, t, rfl, p, q⟩ := h
    refine ⟨_, (pss_one (ps_ret (pe_and ((pe_callB call_isi (by rfl) T.isi PyProof.Rows.boot_isinstance (pa_cons (pv 0) (pa_cons (pe_bltn (v := .ty "int") (by rfl) T.int (by decide +kernel) rfl) pa_nil)))) (pe_one (pe_not ((pe_callB call_isi (by rfl) T.isi PyProof.Rows.boot_isinstance (pa_cons (pv 0) (pa_cons (pe_bltn (v := .ty "bool") (by rfl) T.bool (by decide +kernel) rfl) pa_nil))))))))), ?_⟩
    refine s_ret (ev_is (ev_andV (ev_isTr (.inl rfl) n c (ev_var rfl) p) fun _ => ev_notV (ev_isTr (.inr (.inl rfl)) n c (ev_var rfl) p)) ?_) fun H1 e1 => q H1 e1
    cases t <;> rfl
abbrev nmIsPt : List Str := ["value", "x", "y", "w"]
theorem scIsPt : FnScope nmIsPt ["value"] (defScope sIsPt) := ⟨rfl, rfl, rfl, by decide +kernel, rfl, by decide +kernel, by decide +kernel⟩
theorem q_unpT3 {K : PySem.W.Frag} {σ : L2.St} {H : Hp} {te : TE} {D : Ends} {tz : TS} {i1 i2 i3 : Nat} {v : V} {t1 t2 t3 : Tr} (h : Ev te σ H v) (p : Tr1 CS H v (.tup [t1, t2, t3])) (k : ∀ v1 v2 v3 H1, Ex H H1 → Tr1 CS H1 v1 t1 → Tr1 CS H1 v2 t2 → Tr1 CS H1 v3 t3 → tz D (((σ.set i1 (some v1)).set i2 (some v2)).set i3 (some v3)) H1) : tSeq (tAsg te (gTup K 3 (gCons (gName i1) (gCons (gName i2) (gCons (gName i3) gNil))))) tz D σ H := h H (Ex.refl H) _ fun H1 e => by
  obtain ⟨a, ys, rfl, ha, m⟩ := (p.mono e).tup
  obtain ⟨u1, y1, rfl, x1, m⟩ := m.inv
  obtain ⟨u2, y2, rfl, x2, m⟩ := m.inv
  obtain ⟨u3, y3, rfl, x3, m⟩ := m.inv
  cases m.inv0
  exact ⟨a, _, rfl, SqT.of ha, rfl, u1, _, rfl, u2, _, rfl, u3, _, rfl, rfl, k u1 u2 u3 H1 e x1 x2 x3⟩
theorem ispt_len {us : List Tr} (h : us.length ≠ 3) : (Tr.tup us).isPt = false := by
  match us, h with
  | [], _ => rfl
  | [a], _ => cases a <;> rfl
  | [a, b], _ => cases a <;> cases b <;> rfl
  | [_, _, _], h => exact absurd rfl h
  | a :: b :: c :: d :: us, _ => cases a <;> cases b <;> cases c <;> rfl
theorem ok_ispt {f : Addr} {fd : FuncData} (F : Fun K "is_point" "is_point" sIsPt f fd) (T : TN mg) (n : NoP K CS) (c : C8.InsC K CS) (CI : Cl P w K mg base 1 "is_integer" (spIsInt CS)) : FnOk P w K mg base CX0 2 f fd ["value"] (spIsPt CS) := by
  refine F.ok scIsPt (fun vs H Q E h => ?_) (fun cdv A' outer s H vs Q E hr h => ?_)
  · obtain ⟨v, b, rfl, _⟩ := h
    rfl
  · obtain ⟨v, t, rfl, p, q⟩ := h
    refine ⟨_, (pss_cons (ps_if (pw_or (pt_not (pt_val ((pe_callB call_isi (by rfl) T.isi PyProof.Rows.boot_isinstance (pa_cons (pv 0) (pa_cons (pe_bltn (v := .ty "tuple") (by rfl) T.tuple (by decide +kernel) rfl) pa_nil)))))) (pw_or1 (pt_cmpR op_ne (pe_callB call_len_seq (by rfl) T.len PySem.boot_len (pa_cons (pv 0) pa_nil)) pe_int (nomark _)))).pt (pss_one (ps_ret pe_bl)) pss_nil)
      (pss_cons (ps_asg (pv 0) (pg_tup (by rfl) (pgs_cons (pg_name (i := 1) scIsPt.nd rfl (Or.inl rfl)) (pgs_cons (pg_name (i := 2) scIsPt.nd rfl (Or.inl rfl)) (pgs_cons (pg_name (i := 3) scIsPt.nd rfl (Or.inl rfl)) pgs_nil)))))
      (pss_cons (ps_if (pw_or (pt_not (pt_val (pe_cl CI hr (by decide) (by rfl) (pa_cons (pv 1) pa_nil)))) (pw_or (pt_not (pt_val (pe_cl CI hr (by decide) (by rfl) (pa_cons (pv 2) pa_nil)))) (pw_or1 (pt_not (pt_val (pe_cl CI hr (by decide) (by rfl) (pa_cons (pv 3) pa_nil))))))).pt (pss_one (ps_ret pe_bl)) pss_nil)
      (pss_one (ps_ret (pe_and (pe_cmpR op_ge (pv 3) pe_int (nomark _)) (pe_one (pe_cmpR op_eq (pe_callBfun cr_gcd3 (by rfl) T.gcd (pa_cons (pv 1) (pa_cons (pv 2) (pa_cons (pv 3) pa_nil)))) pe_int (nomark _))))))))), ?_⟩
    by_cases tp : ∃ us, t = .tup us
    · obtain ⟨us, rfl⟩ := tp
      have fst : EvT (tOr (tNot (tB (tCB (rIsi K) (tCons (tVar 0) (tCons (tC (.ty "tuple")) tNil))))) (tTest (tOp rNe (tCB (rLenS K) (tCons (tVar 0) tNil)) (tC (.int 3))))) [some v, none, none, none] H (!decide (us.length = 3)) :=
        et_is (et_or (et_is (et_not (et_B (ev_isTr (.inr (.inr rfl)) n c (ev_var rfl) p))) (show (!(Tr.tup us).is "tuple") = false from rfl)) fun _ => et_test (ev_op (ev_lenTr (ev_var rfl) p) ev_c (rv_ne rfl))) (by
          have z : (V.int (us.length : Int) = V.int 3) ↔ us.length = 3 := ⟨fun h => by injection h with h; omega, fun h => by rw [h]; rfl⟩
          have z2 : decide (V.int (us.length : Int) = V.int 3) = decide (us.length = 3) := decide_eq_decide.mpr z
          rw [z2]
          rfl)
      by_cases l3 : us.length = 3
      · rw [decide_eq_true l3] at fst
        obtain ⟨t1, t2, t3, rfl⟩ : ∃ t1 t2 t3, us = [t1, t2, t3] := by
          match us, l3 with
          | [x, y, z], _ => exact ⟨x, y, z, rfl⟩
        refine q_not fst fun H1 e1 => q_unpT3 (ev_var rfl) (p.mono e1) fun v1 v2 v3 H2 e2 x1 x2 x3 => ?_
        have e12 := e1.trans e2
        have tst : EvT (tOr (tNot (tB (tCall (spIsInt CS) [] E0 (tCons (tVar 1) tNil)))) (tOr (tNot (tB (tCall (spIsInt CS) [] E0 (tCons (tVar 2) tNil)))) (tNot (tB (tCall (spIsInt CS) [] E0 (tCons (tVar 3) tNil)))))) [some v, some v1, some v2, some v3] H2 (!t1.isInt || (!t2.isInt || !t3.isInt)) :=
          et_or (et_not (et_B (ev_isint (ev_var rfl) x1))) fun _ => et_or (et_not (et_B (ev_isint (ev_var rfl) x2))) fun _ => et_not (et_B (ev_isint (ev_var rfl) x3))
        by_cases all : ∃ x y z, t1 = .int x ∧ t2 = .int y ∧ t3 = .int z
        · obtain ⟨x, y, z, rfl, rfl, rfl⟩ := all
          cases x1.int
          cases x2.int
          cases x3.int
          refine q_not tst fun H3 e3 => ?_
          refine s_ret (v := .bl (decide (1 ≤ z) && decide (PM.gc x y z = 1))) (ev_andV (a := decide (1 ≤ z)) (b := decide (PM.gc x y z = 1)) (ev_is (ev_op (ev_var rfl) ev_c (fun H1 e Q q => ⟨z, 1, rfl, rfl, q H1 (Ex.refl _)⟩)) (by rfl)) fun _ => ev_is (ev_op (ev_cb (ea_cons (ev_var rfl) (ea_cons (ev_var rfl) (ea_cons (ev_var rfl) ea_nil))) fun H1 e Q q => ⟨x, y, z, rfl, q H1 (Ex.refl _)⟩) ev_c (rv_eq rfl)) ?_) fun H4 e4 => ?_
          · show V.bl (decide (V.int (PM.gc x y z) = V.int 1)) = V.bl (decide (PM.gc x y z = 1))
            congr 1
            refine decide_eq_decide.mpr ⟨fun h => by injection h, fun h => by rw [h]⟩
          · exact q H4 ((e12.trans e3).trans e4)
        · have o : (!t1.isInt || (!t2.isInt || !t3.isInt)) = true := by
            cases t1 <;> try rfl
            cases t2 <;> try rfl
            cases t3 <;> try rfl
            exact absurd ⟨_, _, _, rfl, rfl, rfl⟩ all
          have z : (Tr.tup [t1, t2, t3]).isPt = false := by
            cases t1 <;> try rfl
            cases t2 <;> try rfl
            cases t3 <;> try rfl
            exact absurd ⟨_, _, _, rfl, rfl, rfl⟩ all
          rw [z] at q
          rw [o] at tst
          exact q_yes tst fun H3 e3 => s_ret ev_c fun H4 e4 => q H4 ((e12.trans e3).trans e4)
      · rw [decide_eq_false l3] at fst
        rw [ispt_len l3] at q
        exact q_yes fst fun H1 e1 => s_ret ev_c fun H2 e2 => q H2 (e1.trans e2)
    · have z : t.isPt = false := by cases t <;> first | rfl | exact absurd ⟨_, rfl⟩ tp
      have o : (!t.is "tuple") = true := by cases t <;> first | rfl | exact absurd ⟨_, rfl⟩ tp
      rw [z] at q
      exact q_yes (et_is (et_or (b := true) (et_is (et_not (et_B (ev_isTr (.inr (.inr rfl)) n c (ev_var rfl) p))) o) fun z => nomatch z) rfl) fun H1 e1 => s_ret ev_c fun H2 e2 => q H2 (e1.trans e2)
end
end Q
set_option Elab.async false
set_option linter.all false
set_option maxRecDepth 100000
set_option maxHeartbeats 4000000
/-! what is told, by any values -/
namespace Q
open PySem L2 PySem.Spec PyProof.Rows PySem.Calls PySem.OwnX
open Evl
abbrev sCor : Stmt := top 64
abbrev sCors : Stmt := top 65
abbrev sRing : Stmt := top 66
abbrev sArea : Stmt := top 67
abbrev sPiece : Stmt := top 68
abbrev sToldS : Stmt := top 69
/-- something walked that gives xs -/
def EvW (wi : L2.TI) (σ : L2.St) (H : Hp) (xs : List V) : Prop := ∀ H0, Ex H H0 → ∀ R : It → Hp → Prop, (∀ J H1, Ex H0 H1 → (∃ G : Hp → Prop, Walk J xs.length G (YAt xs) ∧ ∀ H', Ex H1 H' → G H') → R J H1) → wi σ H0 R
section
variable {K : PySem.W.Frag} {σ : L2.St} {H : Hp} {te tl : TE} {wi : L2.TI} {vs : List Nat} {a : Addr} {xs : List V}
theorem ew_tup (h : Ev tl σ H (.ref a)) (ha : H a = some (.tup xs)) : EvW (iTup K tl) σ H xs := fun H0 e0 R q => h H0 e0 _ fun H1 e1 => ⟨a, rfl, ⟨xs, SqT.of ((e0.trans e1) _ _ ha)⟩, q _ H1 e1 ⟨_, walk_tup (K := K) (a := a) (xs := xs), fun H' e2 => SqT.of (((e0.trans e1).trans e2) _ _ ha)⟩⟩
theorem ew_list (h : Ev tl σ H (.ref a)) (ha : H a = some (.lst xs)) : EvW (iList K tl) σ H xs := fun H0 e0 R q => h H0 e0 _ fun H1 e1 => ⟨a, rfl, ⟨xs, SqL.of ((e0.trans e1) _ _ ha)⟩, q _ H1 e1 ⟨_, walk_list (K := K) (a := a) (xs := xs), fun H' e2 => SqL.of (((e0.trans e1).trans e2) _ _ ha)⟩⟩
end
section
variable {K : PySem.W.Frag} {σ : L2.St} {H : Hp} {te : TE} {wi : L2.TI} {vs : List Nat} {xs : List V}
/-- a comprehension over raw values -/
theorem eds_raw {j : Nat} {g : Nat → PyData} (h : EvW wi σ H xs) (hz : xs.length ≤ 1000) (hw : ∀ x, wipe ((wipe σ vs).set j (some x)) vs = wipe σ vs)
    (hs : ∀ i x H1, xs[i]? = some x → Ex H H1 → EvD te ((wipe σ vs).set j (some x)) H1 (g i)) : EvDs (tLc wi (gName j) tYes te vs) σ H ((List.range xs.length).map g) := fun H0 e0 Q q => by
  refine h H0 e0 _ fun J H1 e1 ⟨G, w, hG⟩ Dl hD => ?_
  refine lc_it w (fun i H' => Ex H1 H' ∧ ∃ ys, H' Dl = some (.lst ys) ∧ TDs H' ys ((List.range i).map g)) ⟨Ex.new hD, [], upd_same, .nil⟩ (fun i H' _ c => hG H' c.1) (fun i x H' H'' hi c y => ?_) fun H' c => ?_
  · obtain ⟨rfl, hx⟩ := y
    obtain ⟨c1, ys, c2, c3⟩ := c
    have ln := c3.len
    rw [List.length_map, List.length_range] at ln
    refine ⟨hw _, yes_ite (hs i x _ hx ((e0.trans e1).trans c1) _ (Ex.refl _) _ fun v H2 e2 tv => ⟨ys, e2 _ _ c2, sz_lt (by omega), Ex.mut (c1.trans e2) hD, _, upd_same, ?_⟩)⟩
    rw [List.range_succ, List.map_append]
    refine ((c3.mono e2).app tv).by fun b zs hb => ?_
    rw [upd_ne]
    · exact hb
    · rintro rfl
      rw [e2 _ _ c2] at hb
      cases hb
  · obtain ⟨c1, ys, c2, c3⟩ := c
    exact q Dl ys H' (fresh_back e1 hD) (e1.trans c1) c2 c3
end
section
variable {K : PySem.W.Frag} {σ : L2.St} {H : Hp} {te ta tb tc : TE} {E : XK} {D : Ends} {u : TS} {p : Int × Int}
theorem ed_bool {b : Bool} (h : Ev te σ H (.bl b)) : EvD te σ H (.bool b) := ed_of h (TDs.bl b .nil)
theorem ev_allLcB {α : Type} {enc : α → PyData} {es : List α} {g : TG} {vs : List Nat} {wi : L2.TI} (F : α → Bool) (h : EvI wi σ H (es.map enc)) (hz : es.length ≤ 40000) (hs : ∀ e ∈ es, Turn1 g tYes te vs σ H enc (fun _ => true) (fun e => PyData.bool (F e)) e) : Ev (tCB (rAll K) (tCons (tLc wi g tYes te vs) tNil)) σ H (.bl (es.all F)) := by
  have z := eds_it (te := te) (fun _ => true) (fun e => PyData.bool (F e)) h hz hs
  rw [filt_all] at z
  have e : es.map (fun e => PyData.bool (F e)) = (es.map F).map PyData.bool := by rw [List.map_map]; rfl
  rw [e] at z
  refine ev_is (ev_all z) ?_
  congr 1
  rw [List.all_map]
  rfl
end
def Tr.kids : Tr → List Tr
  | .tup ts => ts
  | _ => []
/-- few kids, n levels deep -/
def Fw : Nat → Tr → Prop
  | 0, _ => True
  | n + 1, t => t.kids.length ≤ 1000 ∧ ∀ u ∈ t.kids, Fw n u
def Tr.pairI : Tr → Bool
  | .tup [a, b] => a.isInt && b.isInt
  | _ => false
def Tr.cor (t : Tr) : Bool := t.isPt || t.pairI
def Tr.cors : Tr → Bool
  | .tup ts => ts.all Tr.cor
  | _ => false
def Tr.ring (t : Tr) : Bool := t.cors && decide (3 ≤ t.kids.length)
def Tr.area : Tr → Bool
  | .tup ts => decide (1 ≤ ts.length) && ts.all Tr.ring
  | _ => false
def Tr.piece (t : Tr) : Bool := t.cors && decide (t.kids.length = 2)
def Tr.eachIs (f : Tr → Bool) : Tr → Bool
  | .tup ts => ts.all f
  | _ => false
def toldT (a b c : Tr) : Bool := a.eachIs Tr.area && (b.eachIs Tr.piece && c.cors)
def spJ (CS : Addr) (n : Nat) (f : Tr → Bool) : Sp := fun vs H Q _ => ∃ (v : V) (t : Tr), vs = [v] ∧ Tr1 CS H v t ∧ Fw n t ∧ ∀ H', Ex H H' → Q (.bl (f t)) H'
def spTo (CS : Addr) : Sp := fun vs H Q _ => ∃ (u v x : V) (a b c : Tr), vs = [u, v, x] ∧ Tr1 CS H u a ∧ Tr1 CS H v b ∧ Tr1 CS H x c ∧ Fw 3 a ∧ Fw 2 b ∧ Fw 1 c ∧ ∀ H', Ex H H' → Q (.bl (toldT a b c)) H'
section
variable {K : PySem.W.Frag} {σ : L2.St} {H : Hp} {te tb : TE} {E : XK} {v : V} {t : Tr} {CS : Addr} {us : List Tr} {n j : Nat} {f : Tr → Bool}
theorem ev_j (h : Ev te σ H v) (p : Tr1 CS H v t) (w : Fw n t) : Ev (tCall (spJ CS n f) [] E (tCons te tNil)) σ H (.bl (f t)) := ev_call (ea_cons h ea_nil) fun H1 e Q q E => ⟨_, _, rfl, p.mono e, w, fun H2 e2 => q H2 e2⟩
/-- all([.. for x in v]) -/
theorem ev_allTr (h : Ev te σ H v) (p : Tr1 CS H v (.tup us)) (hz : us.length ≤ 1000) (hw : ∀ x, wipe ((wipe σ [j]).set j (some x)) [j] = wipe σ [j]) (hs : ∀ x t H1, t ∈ us → Ex H H1 → Tr1 CS H1 x t → Ev tb ((wipe σ [j]).set j (some x)) H1 (.bl (f t))) :
    Ev (tCB (rAll K) (tCons (tLc (iTup K te) (gName j) tYes tb [j]) tNil)) σ H (.bl (us.all f)) := by
  obtain ⟨a, ys, rfl, ha, m⟩ := p.tup
  have ln := m.len
  have z := eds_raw (te := tb) (g := fun i => PyData.bool (f (us.getD i .non))) (ew_tup (K := K) h ha) (by omega) hw fun i x H1 hx e1 => by
    obtain ⟨t, ht, p1⟩ := m.to hx
    have e : f (us.getD i .non) = f t := by rw [List.getD_eq_getElem?_getD, ht]; rfl
    rw [e]
    exact ed_bool (hs x t H1 (List.mem_of_getElem? ht) e1 (p1.mono e1))
  have e : (List.range ys.length).map (fun i => PyData.bool (f (us.getD i .non))) = (us.map f).map PyData.bool := by
    refine List.ext_getElem (by simp [ln]) fun i h1 h2 => ?_
    have h3 : i < us.length := by simpa using h2
    simp [h3]
  rw [e] at z
  refine ev_is (ev_all z) ?_
  congr 1
  rw [List.all_map]
  rfl
theorem ev_ixTr {k : Nat} (h : Ev te σ H v) (p : Tr1 CS H v (.tup us)) (hk : us[k]? = some t) : ∃ x, Tr1 CS H x t ∧ Ev (tOp (rIxT K) te (tC (.int (k : Int)))) σ H x := by
  obtain ⟨a, ys, rfl, ha, m⟩ := p.tup
  obtain ⟨x, hx, px⟩ := m.at hk
  exact ⟨x, px, ev_op h ev_c (rv_ixT (SqT.of ha) (atI_nat hx))⟩
end
section
variable {P : Program} {w : World} {K : PySem.W.Frag} {mg : Str → Option Value} {base : Heap} {CS : Addr}
theorem scCor : FnScope ["value"] ["value"] (defScope sCor) := ⟨rfl, rfl, rfl, by decide +kernel, rfl, by decide +kernel, by decide +kernel⟩
theorem ok_cor {f : Addr} {fd : FuncData} (F : Fun K "is_told_corner" "is_told_corner" sCor f fd) (T : TN mg) (n : NoP K CS) (c : C8.InsC K CS) (CP : Cl P w K mg base 2 "is_point" (spIsPt CS)) (CI : Cl P w K mg base 1 "is_integer" (spIsInt CS)) : FnOk P w K mg base CX0 3 f fd ["value"] (spJ CS 0 Tr.cor) := by
  refine F.ok scCor (fun vs H Q E h => ?_) (fun cdv A' outer s H vs Q E hr h => ?_)
  · obtain ⟨v, t, rfl, _⟩ := h
    rfl
  · obtain ⟨v, t, rfl, p, _, q⟩ := h
    refine ⟨_, (pss_cons (ps_if (pt_val (pe_cl CP hr (by decide) (by rfl) (pa_cons (pv 0) pa_nil))) (pss_one (ps_ret pe_bl)) pss_nil)
      (pss_one (ps_ret (pe_and ((pe_callB call_isi (by rfl) T.isi PyProof.Rows.boot_isinstance (pa_cons (pv 0) (pa_cons (pe_bltn (v := .ty "tuple") (by rfl) T.tuple (by decide +kernel) rfl) pa_nil)))) (pe_and (pe_cmpR op_eq (pe_callB call_len_seq (by rfl) T.len PySem.boot_len (pa_cons (pv 0) pa_nil)) pe_int (nomark _)) (pe_and (pe_cl CI hr (by decide) (by rfl) (pa_cons (pe_ix ix_tup (pv 0) pe_int (fun _ _ => rfl)) pa_nil)) (pe_one (pe_cl CI hr (by decide) (by rfl) (pa_cons (pe_ix ix_tup (pv 0) pe_int (fun _ _ => rfl)) pa_nil))))))))), ?_⟩
    cases hp : t.isPt with
    | true =>
      have z : t.cor = true := by unfold Tr.cor; rw [hp]; rfl
      rw [z] at q
      exact q_yes (et_is (et_B (ev_ispt (ev_var rfl) p)) hp) fun H1 e1 => s_ret ev_c fun H2 e2 => q H2 (e1.trans e2)
    | false =>
      refine q_not (et_is (et_B (ev_ispt (ev_var rfl) p)) hp) fun H1 e1 => ?_
      have p := p.mono e1
      have no : t.cor = t.pairI := by
        unfold Tr.cor
        rw [hp, Bool.false_or]
      by_cases tp : ∃ us, t = .tup us
      · obtain ⟨us, rfl⟩ := tp
        by_cases l2 : us.length = 2
        · obtain ⟨a, b, rfl⟩ : ∃ a b, us = [a, b] := by
            match us, l2 with
            | [x, y], _ => exact ⟨x, y, rfl⟩
          obtain ⟨x, px, ex⟩ := ev_ixTr (K := K) (te := tVar 0) (σ := [some v]) (k := 0) (ev_var rfl) p rfl
          obtain ⟨y, py, ey⟩ := ev_ixTr (K := K) (te := tVar 0) (σ := [some v]) (k := 1) (ev_var rfl) p rfl
          rw [no] at q
          exact s_ret (ev_andV (a := true) (b := a.isInt && b.isInt) (ev_is (ev_isTr (.inr (.inr rfl)) n c (ev_var rfl) p) rfl) fun _ => ev_andV (a := true) (b := a.isInt && b.isInt) (ev_is (ev_op (ev_lenTr (ev_var rfl) p) ev_c (rv_eq rfl)) (by rfl)) fun _ => ev_andV (a := a.isInt) (b := b.isInt) (ev_isint ex px) fun _ => ev_isint ey py) fun H2 e2 => q H2 (e1.trans e2)
        · have z : (Tr.tup us).cor = false := by
            rw [no]
            match us, l2 with
            | [], _ => rfl
            | [_], _ => rfl
            | [_, _], l2 => exact absurd rfl l2
            | _ :: _ :: _ :: _, _ => rfl
          rw [z] at q
          have nl : decide (V.int (us.length : Int) = V.int 2) = false := decide_eq_false fun h => l2 (by injection h with h; omega)
          exact s_ret (ev_andV (a := true) (b := false) (ev_is (ev_isTr (.inr (.inr rfl)) n c (ev_var rfl) p) rfl) fun _ => ev_andV (a := false) (b := false) (ev_is (ev_op (ev_lenTr (ev_var rfl) p) ev_c (rv_eq rfl)) (congrArg V.bl nl)) fun z => nomatch z) fun H2 e2 => q H2 (e1.trans e2)
      · have z : t.cor = false := by
          rw [no]
          cases t <;> first | rfl | exact absurd ⟨_, rfl⟩ tp
        have o : t.is "tuple" = false := by cases t <;> first | rfl | exact absurd ⟨_, rfl⟩ tp
        rw [z] at q
        exact s_ret (ev_andV (a := false) (b := false) (ev_is (ev_isTr (.inr (.inr rfl)) n c (ev_var rfl) p) (congrArg V.bl o)) fun z => nomatch z) fun H2 e2 => q H2 (e1.trans e2)
abbrev nmCors : List Str := ["value", "corner"]
theorem scCors : FnScope nmCors ["value"] (defScope sCors) := ⟨rfl, rfl, rfl, by decide +kernel, rfl, by decide +kernel, by decide +kernel⟩
theorem ok_cors {f : Addr} {fd : FuncData} (F : Fun K "are_told_corners" "are_told_corners" sCors f fd) (T : TN mg) (n : NoP K CS) (c : C8.InsC K CS) (CC : Cl P w K mg base 3 "is_told_corner" (spJ CS 0 Tr.cor)) : FnOk P w K mg base CX0 4 f fd ["value"] (spJ CS 1 Tr.cors) := by
  refine F.ok scCors (fun vs H Q E h => ?_) (fun cdv A' outer s H vs Q E hr h => ?_)
  · obtain ⟨v, t, rfl, _⟩ := h
    rfl
  · obtain ⟨v, t, rfl, p, fw, q⟩ := h
    refine ⟨_, (pss_one (ps_ret (pe_and ((pe_callB call_isi (by rfl) T.isi PyProof.Rows.boot_isinstance (pa_cons (pv 0) (pa_cons (pe_bltn (v := .ty "tuple") (by rfl) T.tuple (by decide +kernel) rfl) pa_nil)))) (pe_one (pe_callB (cr_all rfl) (by rfl) T.all (by decide +kernel) (pa_cons (pe_lc (own := [("corner", 1)]) (g := gName 1) (by rfl) scCors.nd (pi_tup (pv 0))
        (blkOk_by (own := [("corner", 1)]) (N := nmCors) (sc := defScope sCors) (by decide +kernel))
        (fun _ _ _ _ _ => by exact (pg_name (i := 1) scCors.nd rfl (Or.inl rfl))) (fun _ _ _ _ _ => pts_nil)
        (te := (tCall (spJ CS 0 Tr.cor) [] E0 (tCons (tVar 1) tNil))) (fun _ _ _ _ _ => by exact (pe_cl CC hr (by decide) (by rfl) (by exact (pa_cons (pv 1) pa_nil))))) pa_nil)))))), ?_⟩
    by_cases tp : ∃ us, t = .tup us
    · obtain ⟨us, rfl⟩ := tp
      exact s_ret (ev_andV (a := true) (b := us.all Tr.cor) (ev_is (ev_isTr (.inr (.inr rfl)) n c (ev_var rfl) p) rfl) fun _ => ev_allTr (ev_var rfl) p fw.1 (fun _ => rfl) fun x t H1 m e1 px => ev_j (n := 0) (ev_var rfl) px True.intro) fun H2 e2 => q H2 e2
    · have z : t.cors = false := by cases t <;> first | rfl | exact absurd ⟨_, rfl⟩ tp
      have o : t.is "tuple" = false := by cases t <;> first | rfl | exact absurd ⟨_, rfl⟩ tp
      rw [z] at q
      exact s_ret (ev_andV (a := false) (b := false) (ev_is (ev_isTr (.inr (.inr rfl)) n c (ev_var rfl) p) (congrArg V.bl o)) fun z => nomatch z) fun H2 e2 => q H2 e2
theorem cors_tup {t : Tr} (h : t.cors = true) : ∃ us, t = .tup us := by cases t <;> first | exact ⟨_, rfl⟩ | cases h
theorem scRing : FnScope ["value"] ["value"] (defScope sRing) := ⟨rfl, rfl, rfl, by decide +kernel, rfl, by decide +kernel, by decide +kernel⟩
theorem ok_ring {f : Addr} {fd : FuncData} (F : Fun K "is_told_ring" "is_told_ring" sRing f fd) (T : TN mg) (CC : Cl P w K mg base 4 "are_told_corners" (spJ CS 1 Tr.cors)) : FnOk P w K mg base CX0 5 f fd ["value"] (spJ CS 1 Tr.ring) := by
  refine F.ok scRing (fun vs H Q E h => ?_) (fun cdv A' outer s H vs Q E hr h => ?_)
  · obtain ⟨v, t, rfl, _⟩ := h
    rfl
  · obtain ⟨v, t, rfl, p, fw, q⟩ := h
    refine ⟨_, (pss_one (ps_ret (pe_and (pe_cl CC hr (by decide) (by rfl) (pa_cons (pv 0) pa_nil)) (pe_one (pe_cmpR op_ge (pe_callB call_len_seq (by rfl) T.len PySem.boot_len (pa_cons (pv 0) pa_nil)) pe_int (nomark _)))))), ?_⟩
    refine s_ret (ev_andV (a := t.cors) (b := decide (3 ≤ t.kids.length)) (ev_j (ev_var rfl) p fw) fun h => ?_) fun H2 e2 => q H2 e2
    obtain ⟨us, rfl⟩ := cors_tup h
    exact ev_is (ev_op (ev_lenTr (ev_var rfl) p) ev_c (fun H1 e Q q => ⟨_, 3, rfl, rfl, q H1 (Ex.refl _)⟩)) (congrArg V.bl (decide_eq_decide.mpr (by show (3 : Int) ≤ (us.length : Int) ↔ 3 ≤ us.length; omega)))
theorem scPiece : FnScope ["value"] ["value"] (defScope sPiece) := ⟨rfl, rfl, rfl, by decide +kernel, rfl, by decide +kernel, by decide +kernel⟩
theorem ok_piece {f : Addr} {fd : FuncData} (F : Fun K "is_told_piece" "is_told_piece" sPiece f fd) (T : TN mg) (CC : Cl P w K mg base 4 "are_told_corners" (spJ CS 1 Tr.cors)) : FnOk P w K mg base CX0 5 f fd ["value"] (spJ CS 1 Tr.piece) := by
  refine F.ok scPiece (fun vs H Q E h => ?_) (fun cdv A' outer s H vs Q E hr h => ?_)
  · obtain ⟨v, t, rfl, _⟩ := h
    rfl
  · obtain ⟨v, t, rfl, p, fw, q⟩ := h
    refine ⟨_, (pss_one (ps_ret (pe_and (pe_cl CC hr (by decide) (by rfl) (pa_cons (pv 0) pa_nil)) (pe_one (pe_cmpR op_eq (pe_callB call_len_seq (by rfl) T.len PySem.boot_len (pa_cons (pv 0) pa_nil)) pe_int (nomark _)))))), ?_⟩
    refine s_ret (ev_andV (a := t.cors) (b := decide (t.kids.length = 2)) (ev_j (ev_var rfl) p fw) fun h => ?_) fun H2 e2 => q H2 e2
    obtain ⟨us, rfl⟩ := cors_tup h
    exact ev_is (ev_op (ev_lenTr (ev_var rfl) p) ev_c (rv_eq rfl)) (congrArg V.bl (decide_eq_decide.mpr ⟨fun h => by injection h with h; show us.length = 2; omega, fun h => by
      have h : us.length = 2 := h
      rw [h]
      rfl⟩))
abbrev nmArea : List Str := ["value", "ring"]
theorem scArea : FnScope nmArea ["value"] (defScope sArea) := ⟨rfl, rfl, rfl, by decide +kernel, rfl, by decide +kernel, by decide +kernel⟩
theorem ok_area {f : Addr} {fd : FuncData} (F : Fun K "is_told_area" "is_told_area" sArea f fd) (T : TN mg) (n : NoP K CS) (c : C8.InsC K CS) (CC : Cl P w K mg base 5 "is_told_ring" (spJ CS 1 Tr.ring)) : FnOk P w K mg base CX0 6 f fd ["value"] (spJ CS 2 Tr.area) := by
  refine F.ok scArea (fun vs H Q E h => ?_) (fun cdv A' outer s H vs Q E hr h => ?_)
  · obtain ⟨v, t, rfl, _⟩ := h
    rfl
  · obtain ⟨v, t, rfl, p, fw, q⟩ := h
    refine ⟨_, (pss_one (ps_ret (pe_and ((pe_callB call_isi (by rfl) T.isi PyProof.Rows.boot_isinstance (pa_cons (pv 0) (pa_cons (pe_bltn (v := .ty "tuple") (by rfl) T.tuple (by decide +kernel) rfl) pa_nil)))) (pe_and (pe_cmpR op_ge (pe_callB call_len_seq (by rfl) T.len PySem.boot_len (pa_cons (pv 0) pa_nil)) pe_int (nomark _)) (pe_one (pe_callB (cr_all rfl) (by rfl) T.all (by decide +kernel) (pa_cons (pe_lc (own := [("ring", 1)]) (g := gName 1) (by rfl) scArea.nd (pi_tup (pv 0))
        (blkOk_by (own := [("ring", 1)]) (N := nmArea) (sc := defScope sArea) (by decide +kernel))
        (fun _ _ _ _ _ => by exact (pg_name (i := 1) scArea.nd rfl (Or.inl rfl))) (fun _ _ _ _ _ => pts_nil)
        (te := (tCall (spJ CS 1 Tr.ring) [] E0 (tCons (tVar 1) tNil))) (fun _ _ _ _ _ => by exact (pe_cl CC hr (by decide) (by rfl) (by exact (pa_cons (pv 1) pa_nil))))) pa_nil))))))), ?_⟩
    by_cases tp : ∃ us, t = .tup us
    · obtain ⟨us, rfl⟩ := tp
      refine s_ret (ev_andV (a := true) (b := decide (1 ≤ us.length) && us.all Tr.ring) (ev_is (ev_isTr (.inr (.inr rfl)) n c (ev_var rfl) p) rfl) fun _ => ev_andV (a := decide (1 ≤ us.length)) (b := us.all Tr.ring) ?_ fun _ => ev_allTr (ev_var rfl) p fw.1 (fun _ => rfl) fun x t H1 m e1 px => ev_j (n := 1) (ev_var rfl) px (fw.2 t m)) fun H2 e2 => q H2 e2
      exact ev_is (ev_op (ev_lenTr (ev_var rfl) p) ev_c (fun H1 e Q q => ⟨_, 1, rfl, rfl, q H1 (Ex.refl _)⟩)) (congrArg V.bl (decide_eq_decide.mpr (by show (1 : Int) ≤ (us.length : Int) ↔ 1 ≤ us.length; omega)))
    · have z : t.area = false := by cases t <;> first | rfl | exact absurd ⟨_, rfl⟩ tp
      have o : t.is "tuple" = false := by cases t <;> first | rfl | exact absurd ⟨_, rfl⟩ tp
      rw [z] at q
      exact s_ret (ev_andV (a := false) (b := false) (ev_is (ev_isTr (.inr (.inr rfl)) n c (ev_var rfl) p) (congrArg V.bl o)) fun z => nomatch z) fun H2 e2 => q H2 e2
/-- not isinstance(v, tuple) or not all([f(x) for x in v]) -/
theorem et_each {K : PySem.W.Frag} {σ : L2.St} {H : Hp} {te tb : TE} {v : V} {t : Tr} {f : Tr → Bool} {j : Nat} (n : NoP K CS) (c : C8.InsC K CS) (h : Ev te σ H v) (p : Tr1 CS H v t) (hz : t.kids.length ≤ 1000) (hw : ∀ x, wipe ((wipe σ [j]).set j (some x)) [j] = wipe σ [j]) (hs : ∀ x t1 H1, t1 ∈ t.kids → Ex H H1 → Tr1 CS H1 x t1 → Ev tb ((wipe σ [j]).set j (some x)) H1 (.bl (f t1))) :
    EvT (tOr (tNot (tB (tCB (rIsi K) (tCons te (tCons (tC (.ty "tuple")) tNil))))) (tNot (tB (tCB (rAll K) (tCons (tLc (iTup K te) (gName j) tYes tb [j]) tNil))))) σ H (!t.eachIs f) := by
  by_cases tp : ∃ us, t = .tup us
  · obtain ⟨us, rfl⟩ := tp
    exact et_is (et_or (a := false) (b := !us.all f) (et_is (et_not (et_B (ev_isTr (.inr (.inr rfl)) n c h p))) rfl) fun _ => et_not (et_B (ev_allTr h p hz hw hs))) rfl
  · have z : t.eachIs f = false := by cases t <;> first | rfl | exact absurd ⟨_, rfl⟩ tp
    have o : t.is "tuple" = false := by cases t <;> first | rfl | exact absurd ⟨_, rfl⟩ tp
    rw [z]
    exact et_or (a := true) (b := false) (et_is (et_not (et_B (ev_isTr (.inr (.inr rfl)) n c h p))) (by rw [o]; rfl)) fun z => nomatch z
abbrev nmToldS : List Str := ["areas", "pieces", "points", "area", "piece"]
theorem scToldS : FnScope nmToldS ["areas", "pieces", "points"] (defScope sToldS) := ⟨rfl, rfl, rfl, by decide +kernel, rfl, by decide +kernel, by decide +kernel⟩
theorem ok_toldS {f : Addr} {fd : FuncData} (F : Fun K "is_told_shape" "is_told_shape" sToldS f fd) (T : TN mg) (n : NoP K CS) (c : C8.InsC K CS) (CA : Cl P w K mg base 6 "is_told_area" (spJ CS 2 Tr.area)) (CP : Cl P w K mg base 5 "is_told_piece" (spJ CS 1 Tr.piece)) (CC : Cl P w K mg base 4 "are_told_corners" (spJ CS 1 Tr.cors)) : FnOk P w K mg base CX0 7 f fd ["areas", "pieces", "points"] (spTo CS) := by
  refine F.ok scToldS (fun vs H Q E h => ?_) (fun cdv A' outer s H vs Q E hr h => ?_)
  · obtain ⟨u, v, x, a, b, d, rfl, _⟩ := h
    rfl
  · obtain ⟨u, v, x, a, b, d, rfl, pa, pb, pc, fa, fb, fc, q⟩ := h
    refine ⟨_, (pss_cons (ps_if (pw_or (pt_not (pt_val ((pe_callB call_isi (by rfl) T.isi PyProof.Rows.boot_isinstance (pa_cons (pv 0) (pa_cons (pe_bltn (v := .ty "tuple") (by rfl) T.tuple (by decide +kernel) rfl) pa_nil)))))) (pw_or1 (pt_not (pt_val (pe_callB (cr_all rfl) (by rfl) T.all (by decide +kernel) (pa_cons (pe_lc (own := [("area", 3)]) (g := gName 3) (by rfl) scToldS.nd (pi_tup (pv 0))
        (blkOk_by (own := [("area", 3)]) (N := nmToldS) (sc := defScope sToldS) (by decide +kernel))
        (fun _ _ _ _ _ => by exact (pg_name (i := 3) scToldS.nd rfl (Or.inl rfl))) (fun _ _ _ _ _ => pts_nil)
        (te := (tCall (spJ CS 2 Tr.area) [] E0 (tCons (tVar 3) tNil))) (fun _ _ _ _ _ => by exact (pe_cl CA hr (by decide) (by rfl) (by exact (pa_cons (pv 3) pa_nil))))) pa_nil)))))).pt (pss_one (ps_ret pe_bl)) pss_nil)
      (pss_cons (ps_if (pw_or (pt_not (pt_val ((pe_callB call_isi (by rfl) T.isi PyProof.Rows.boot_isinstance (pa_cons (pv 1) (pa_cons (pe_bltn (v := .ty "tuple") (by rfl) T.tuple (by decide +kernel) rfl) pa_nil)))))) (pw_or1 (pt_not (pt_val (pe_callB (cr_all rfl) (by rfl) T.all (by decide +kernel) (pa_cons (pe_lc (own := [("piece", 4)]) (g := gName 4) (by rfl) scToldS.nd (pi_tup (pv 1))
        (blkOk_by (own := [("piece", 4)]) (N := nmToldS) (sc := defScope sToldS) (by decide +kernel))
        (fun _ _ _ _ _ => by exact (pg_name (i := 4) scToldS.nd rfl (Or.inl rfl))) (fun _ _ _ _ _ => pts_nil)
        (te := (tCall (spJ CS 1 Tr.piece) [] E0 (tCons (tVar 4) tNil))) (fun _ _ _ _ _ => by exact (pe_cl CP hr (by decide) (by rfl) (by exact (pa_cons (pv 4) pa_nil))))) pa_nil)))))).pt (pss_one (ps_ret pe_bl)) pss_nil)
      (pss_one (ps_ret (pe_cl CC hr (by decide) (by rfl) (pa_cons (pv 2) pa_nil)))))), ?_⟩
    have ta := et_each (K := K) (σ := [some u, some v, some x, none, none]) (te := tVar 0) (j := 3) (f := Tr.area) (tb := tCall (spJ CS 2 Tr.area) [] E0 (tCons (tVar 3) tNil)) n c (ev_var rfl) pa fa.1 (fun _ => rfl) fun y t1 H1 m e1 p1 => ev_j (n := 2) (ev_var rfl) p1 (fa.2 t1 m)
    cases ha : a.eachIs Tr.area with
    | false =>
      rw [ha] at ta
      have z : toldT a b d = false := by unfold toldT; rw [ha]; rfl
      rw [z] at q
      exact q_yes ta fun H1 e1 => s_ret ev_c fun H2 e2 => q H2 (e1.trans e2)
    | true =>
      rw [ha] at ta
      refine q_not ta fun H1 e1 => ?_
      have tb := et_each (K := K) (σ := [some u, some v, some x, none, none]) (te := tVar 1) (j := 4) (f := Tr.piece) (tb := tCall (spJ CS 1 Tr.piece) [] E0 (tCons (tVar 4) tNil)) n c (ev_var rfl) (pb.mono e1) fb.1 (fun _ => rfl) fun y t1 H1 m e1 p1 => ev_j (n := 1) (ev_var rfl) p1 (fb.2 t1 m)
      cases hb : b.eachIs Tr.piece with
      | false =>
        rw [hb] at tb
        have z : toldT a b d = false := by unfold toldT; rw [ha, hb]; rfl
        rw [z] at q
        exact q_yes tb fun H2 e2 => s_ret ev_c fun H3 e3 => q H3 ((e1.trans e2).trans e3)
      | true =>
        rw [hb] at tb
        have z : toldT a b d = d.cors := by unfold toldT; rw [ha, hb]; rfl
        rw [z] at q
        exact q_not tb fun H2 e2 => s_ret (ev_j (n := 1) (ev_var rfl) (pc.mono (e1.trans e2)) fc) fun H3 e3 => q H3 ((e1.trans e2).trans e3)
end
end Q
set_option Elab.async false
set_option linter.all false
set_option maxRecDepth 100000
set_option maxHeartbeats 4000000
/-! what is told: areas, pieces and points -/
namespace Q
open PySem L2 PySem.Spec PyProof.Rows PySem.Calls PySem.OwnX
open Evl
abbrev sTSize : Stmt := top 70
abbrev sTPt : Stmt := top 71
abbrev sTPts : Stmt := top 72
abbrev sRS : Stmt := top 54
def c2 (p : Int × Int) : PyData := .tuple [.int p.1, .int p.2]
def c3 (p : Int × Int) : PyData := .tuple [.int p.1, .int p.2, .int 1]
abbrev Pt := Int × Int
def ringD (r : List Pt) : PyData := .tuple (r.map c2)
def areaD (rs : List (List Pt)) : PyData := .tuple (rs.map ringD)
def pieceD (q : Pt × Pt) : PyData := .tuple [c2 q.1, c2 q.2]
/-- corners are told -/
structure Told (H : Hp) (a b c : V) (As : List (List (List Pt))) (Pp : List (Pt × Pt)) (ps : List Pt) : Prop where
  a : TD1 H a (.tuple (As.map areaD))
  b : TD1 H b (.tuple (Pp.map pieceD))
  c : TD1 H c (.tuple (ps.map c2))
  na : As.length ≤ 100
  nr : ∀ rs ∈ As, rs.length ≤ 100 ∧ ∀ r ∈ rs, r.length ≤ 100
  np : Pp.length ≤ 100
  nc : ps.length ≤ 1000
theorem Told.mono {H H' : Hp} {a b c : V} {As : List (List (List Pt))} {Pp : List (Pt × Pt)} {ps : List Pt} (e : Ex H H') (t : Told H a b c As Pp ps) : Told H' a b c As Pp ps := ⟨t.a.mono e, t.b.mono e, t.c.mono e, t.na, t.nr, t.np, t.nc⟩
def sizeT (As : List (List (List Pt))) (Pp : List (Pt × Pt)) (ps : List Pt) : Nat := (As.flatMap fun rs => rs.map List.length).sum + Pp.length + ps.length
def spTSize : Sp := fun vs H Q _ => ∃ (a b c : V) (As : List (List (List Pt))) (Pp : List (Pt × Pt)) (ps : List Pt), vs = [a, b, c] ∧ Told H a b c As Pp ps ∧ ∀ H', Ex H H' → Q (.int (sizeT As Pp ps : Nat)) H'
def spTPt : Sp := fun vs H Q _ => ∃ (v : V) (p : Int × Int), vs = [v] ∧ TD1 H v (c2 p) ∧ ∀ u H', Ex H H' → TD1 H' u (c3 p) → Q u H'
def spTPts : Sp := fun vs H Q _ => ∃ (v : V) (ps : List (Int × Int)), vs = [v] ∧ TD1 H v (.tuple (ps.map c2)) ∧ ps.length ≤ 1000 ∧ ∀ u H', Ex H H' → TD1 H' u (.tuple (ps.map c3)) → Q u H'
/-- the sides of a ring -/
def sidesD (ds : List PyData) : List PyData := (List.range ds.length).map fun i => .tuple [ds.getD ((i + ds.length - 1) % ds.length) .none, ds.getD i .none]
def spRS : Sp := fun vs H Q _ => ∃ (v : V) (ds : List PyData), vs = [v] ∧ TD1 H v (.tuple ds) ∧ ds.length ≤ 1000 ∧ ∀ l xs H', H l = none → Ex H H' → H' l = some (.lst xs) → TDs H' xs (sidesD ds) → Q (.ref l) H'
section
variable {K : PySem.W.Frag} {σ : L2.St} {H : Hp} {te ta tb tc : TE} {E : XK} {D : Ends} {u : TS} {p : Int × Int}
theorem ev_sumI {ns : List Int} (h : EvDs te σ H (ns.map PyData.int)) : Ev (tCB (rSum K) (tCons te tNil)) σ H (.int ns.sum) := fun H1 e Q q => h H1 e _ fun p xs H2 n e2 hp x => by
  rw [x.ints_inv] at hp
  exact ⟨p, ns, rfl, SqL.of hp, q H2 e2⟩
theorem sum_cast (ns : List Nat) : (ns.map fun n : Nat => (n : Int)).sum = (ns.sum : Int) := by
  induction ns with
  | nil => rfl
  | cons n ns ih =>
    rw [List.map_cons, List.sum_cons, List.sum_cons, ih]
    omega
theorem ed_tpt (h : EvD te σ H (c2 p)) : EvD (tCall spTPt [] E (tCons te tNil)) σ H (c3 p) := fun H1 e Q q => h H1 e _ fun v H2 e2 x => ⟨v, p, rfl, x, fun u H3 e3 y => q u H3 (e2.trans e3) y⟩
end
section
variable {P : Program} {w : World} {K : PySem.W.Frag} {mg : Str → Option Value} {base : Heap}
theorem scTPt : FnScope ["corner"] ["corner"] (defScope sTPt) := ⟨rfl, rfl, rfl, by decide +kernel, rfl, by decide +kernel, by decide +kernel⟩
theorem ok_tpt {f : Addr} {fd : FuncData} (F : Fun K "told_point" "told_point" sTPt f fd) (T : TN mg) : FnOk P w K mg base CX0 1 f fd ["corner"] spTPt := by
  refine F.ok scTPt (fun vs H Q E h => ?_) (fun cdv A' outer s H vs Q E hr h => ?_)
  · obtain ⟨v, p, rfl, _⟩ := h
    rfl
  · obtain ⟨v, p, rfl, t, q⟩ := h
    refine ⟨_, (pss_cons (ps_if (pt_cmpR op_eq (pe_callB call_len_seq (by rfl) T.len PySem.boot_len (pa_cons (pv 0) pa_nil)) pe_int (nomark _)) (pss_one (ps_ret (pe_tup (pa_cons (pe_ix ix_tup (pv 0) pe_int (fun _ _ => rfl)) (pa_cons (pe_ix ix_tup (pv 0) pe_int (fun _ _ => rfl)) (pa_cons (pe_int) pa_nil)))))) pss_nil)
      (pss_one (ps_ret (pv 0)))), ?_⟩
    refine q_yes (et_is (et_test (ev_op (ev_lenTup (ed_var rfl t)) ev_c (rv_eq rfl))) (show decide (V.int 2 = V.int 2) = true by decide)) fun H1 e1 => ?_
    exact s_retD (ed_tup (da_cons (ed_ix (ed_var rfl (t.mono e1)) ⟨by decide, rfl⟩) (da_cons (ed_ix (ed_var rfl (t.mono e1)) ⟨by decide, rfl⟩) (da_cons (ed_int ev_c) da_nil))) (show (3 : Nat) ≤ 100000 by decide)) fun v H2 e2 x => q v H2 (e1.trans e2) x
abbrev nmTPts : List Str := ["corners", "corner"]
theorem scTPts : FnScope nmTPts ["corners"] (defScope sTPts) := ⟨rfl, rfl, rfl, by decide +kernel, rfl, by decide +kernel, by decide +kernel⟩
theorem ok_tpts {f : Addr} {fd : FuncData} (F : Fun K "told_points" "told_points" sTPts f fd) (T : TN mg) (CT : Cl P w K mg base 1 "told_point" spTPt) : FnOk P w K mg base CX0 2 f fd ["corners"] spTPts := by
  refine F.ok scTPts (fun vs H Q E h => ?_) (fun cdv A' outer s H vs Q E hr h => ?_)
  · obtain ⟨v, ps, rfl, _⟩ := h
    rfl
  · obtain ⟨v, ps, rfl, t, hl, q⟩ := h
    refine ⟨_, (pss_one (ps_ret (pe_callTy call_tuple_of (by rfl) T.tuple (by decide +kernel) (pa_cons (pe_lc (own := [("corner", 1)]) (g := gName 1) (by rfl) scTPts.nd (pi_tup (pv 0))
        (blkOk_by (own := [("corner", 1)]) (N := nmTPts) (sc := defScope sTPts) (by decide +kernel))
        (fun _ _ _ _ _ => by exact (pg_name (i := 1) scTPts.nd rfl (Or.inl rfl))) (fun _ _ _ _ _ => pts_nil)
        (te := (tCall spTPt [] E0 (tCons (tVar 1) tNil))) (fun _ _ _ _ _ => by exact (pe_cl CT hr (by decide) (by rfl) (by exact (pa_cons (pv 1) pa_nil))))) pa_nil)))), ?_⟩
    refine s_retD (ed_tupL (id (eds_it (enc := c2) (es := ps) (fun _ => true) c3 (ei_tup (ed_var rfl t)) (by omega) fun p hp => turn_nm (fun _ => rfl) (fun _ _ _ _ => et_yes) fun v H2 e2 x _ => ed_tpt (ed_var rfl x)))) fun v H2 e2 x => q v H2 e2 (by rw [filt_all] at x; exact x)
end
end Q
set_option Elab.async false
set_option linter.all false
set_option maxRecDepth 100000
set_option maxHeartbeats 4000000
/-! a dict comprehension whose items go in by any store -/
namespace DCT
open PySem PySem.Spec PyProof.Rows L2
/-- a store: the heap, the dict, key and value; what is wanted behind it -/
abbrev Store := Hp → Addr → V → V → (Hp → Prop) → Prop
section
variable {X : Cx}
/-- the store is the machine's, in every block of the def -/
def Store.Runs (S : Store) (X : Cx) : Prop := ∀ {pins : List (Addr × Obj)} {σ : L2.St} {H : Hp} {s : Shared} {E : Value → Shared → Prop} {D : Addr} {y z : V} {u r : Value} {N : Hp → Prop} {Q : Unit → Shared → Prop}, Inv X pins σ H s → RelV y u → RelV z r → S H D y z N →
  (∀ H' s', Inv X pins σ H' s' → N H' → Q () s') → wpAny (model X.prog X.w) X.A (dictSet D u r) Q E s
/-- a tuple key is stored in the new dict -/
theorem storeT {pins : List (Addr × Obj)} {σ : L2.St} {H : Hp} {s : Shared} {E : Value → Shared → Prop} {D b : Addr} {ks : List (List Key × V)} {k : List Key} {v : V} {r : Value} {Q : Unit → Shared → Prop}
    (hu : X.A.units + 1 < cLine) (I : Inv X pins σ H s) (hD : H D = some (.dT ks)) (hz : ks.length < sizeLine) (hb : H b = some (.tup (k.map kV))) (rv : RelV v r)
    (q : ∀ s', Inv X pins σ (upd H D (.dT (putK ks k v))) s' → Q () s') : wpAny (model X.prog X.w) X.A (dictSet D (.ref b) r) Q E s := by
  obtain ⟨z, nd, xs, rel, dd⟩ := dt_of I.hok hD
  have zx : xs.length ≤ sizeLine := (Paired.length rel) ▸ z
  have zl : (putK ks k v).length ≤ sizeLine := by
    have := length_putK ks k v
    omega
  refine wpAny_dictSet_heap (hsz := zx) (show X.A.units < cLine by omega) (key_of I.hok hb) dd ?_
  rintro h' ⟨ob, es, ep, ho, h2, h3, h4, _, h5⟩ sb
  refine q _ (d_write I (by rw [hD]; exact True.intro) sb ⟨ob, ho⟩ ⟨zl, nd, _, (rel.put k hb rv).keeps fun c ys ec => ?_, ob, es, ep, ho, h2, h3, h4, h5⟩)
  rw [upd_ne (ne_of ec hD (fun z => nomatch z))]
  exact ec
/-- tuples of ints and texts as keys -/
def stoT : Store := fun H D y z N => ∃ ks k b, y = .ref b ∧ H D = some (.dT ks) ∧ ks.length < sizeLine ∧ H b = some (.tup (k.map kV)) ∧ N (upd H D (.dT (putK ks k z)))
theorem stoT_runs (hu : X.A.units + 1 < cLine) : stoT.Runs X := by
  intro pins σ H s E D y z u r N Q I ry rz h q
  obtain ⟨ks, k, b, rfl, hD, hl, hb, n⟩ := h
  cases ry
  exact storeT hu I hD hl hb rz fun s' I' => q _ s' I' n
/-- what one turn owes -/
def turnS (S : Store) (D : Addr) (g : TG) (tt : TT) (tk tv : TE) (vs : List Nat) (σ : L2.St) (x : V) (H : Hp) (N : Hp → Prop) : Prop :=
  g x (wipe σ vs) H fun τ H1 => wipe τ vs = wipe σ vs ∧ tt τ H1 fun b H2 => if b = true then tk τ H2 fun y H3 => tv τ H3 fun z H4 => S H4 D y z N else N H2
/-- the comprehension's reading: o0 the new dict -/
def tDcS (S : Store) (o0 : HO) (wi : L2.TI) (g : TG) (tt : TT) (tk tv : TE) (vs : List Nat) : TE := fun σ H Q => wi σ H fun J H1 => ∀ D, H1 D = none →
  ∃ W : Nat → Nat → Hp → Prop, (∃ m, W 0 m (upd H1 D o0)) ∧ ∀ i m H2, W i m H2 → (J.stop i H2 ∧ Q (.ref D) H2) ∨
    (J.go i H2 ∧ ∃ N : Hp → Prop, (∀ H', N H' → ∃ m', m' < m ∧ W (i + 1) m' H') ∧ ∀ x H', J.yld i H2 x H' → turnS S D g tt tk tv vs σ x H' N)
variable {S : Store} {o0 : HO} {kx vx tg iter : Expr} {ifs : List Expr} {scope : Scope} {own : List (Str × Nat)} {pos : Pos} {wi : L2.TI} {g : TG} {tt : TT} {tk tv : TE}
/-- all blocks that the comprehension may open -/
abbrev InBlks (X : Cx) (scope : Scope) (φ : Cx → Prop) : Prop := ∀ (s : Shared) (H : Hp) (C : Addr) (cl : List (Str × Addr)) (fp : List Addr), φ (X.blk s H scope (compEnvC scope cl C X.env) fp)
/-- the walked thing's own objects may turn within the block -/
theorem stays {X : Cx} {t : Shared} {G : Hp} {ce : Env} {fp : List Addr} {σ : L2.St} {H : Hp} {s : Shared} (I : Inv (X.blk t G scope ce fp) [] σ H s) (n : ∀ b ∈ fp, H b = none) : ∀ b ∈ fp, FpOk (X.blk t G scope ce fp) [] H b := by
  intro b hb
  obtain ⟨e1, e2⟩ := I.ok.exf b hb
  refine ⟨n b hb, e1, I.ok.exfs b hb, .inl hb, fun x c e => e2 x c e, ?_⟩
  intro p hp
  have z : p ∈ ([] : List (Addr × Obj)) ++ [] := hp
  simp at z
theorem dcS_core {pins : List (Addr × Obj)} {s : Shared} {σ : L2.St} {H : Hp} {Q : VK} {at_ : Pos} {use : Option (Value → Sem Unit)} {R : Value → Shared → Prop} (cal : X.calm = true) (nd : X.N.Nodup) (I : Inv X pins σ H s) (pI : PI X tg iter wi) (bo : BlkOk X.N X.env.scope scope own)
    (pG : InBlks X scope fun B => PG B tg g) (pT : InBlks X scope fun B => PTs B ifs tt) (pK : InBlks X scope fun B => PE B kx tk)
    (pV : InBlks X scope fun B => PE B vx tv) (run : InBlks X scope fun B => S.Runs B) (new0 : ∀ (h : Heap) (H : Hp), sysModules < h.objs.size → ObjOk X.prog X.w H (h.push { cls := .type "dict", data := .dict #[] }) h.objs.size o0)
    (fold : ∀ x, foldedSetIterable iter X.env x = pure x) (h : tDcS S o0 wi g tt tk tv (own.map (·.2)) σ H Q)
    (behind : ∀ D C s' m H', Inv X pins σ H' s' → Q (.ref D) H' → s'.heap.Ns C m → FpOk X pins H' C → compPost (model X.prog X.w) X.A X.xe use R (.ref D) C (.ok .next) s') :
    wpAny (model X.prog X.w) X.A (comprehension (.DictComp kx vx [⟨tg, iter, ifs, 0⟩] scope pos) scope X.env at_ newDict false (eval iter X.env) use) R X.xe s := by
  have clo : ∀ y ∈ scope.names, y.2 = .free → ∃ c, X.env.cells.lookup y.1 = some c := by
    intro y hy e
    exact I.ok.has _ (bo.free y hy e)
  refine wpAny_comprehension_free (use := use) rfl fold (closure_ok clo) bo.kind (fun y hy e => (congrArg some e) ▸ bo.uniq y hy) ?_
  refine thn (pI.run pins s σ H _ I h) ?_
  intro x0 t1 a1
  refine thn a1 ?_
  rintro i0 t2 ⟨it, fp, trk, J, G2, rfl, I2, T, k2, f2, more⟩
  refine wpAny_newObj_type (newEnv_comp ?_)
  have noD : G2 t2.heap.objs.size = none := I2.hok.fresh (Nat.le_refl _)
  obtain ⟨W, ⟨m0, w0⟩, turn⟩ := more _ noD
  -- the new dict is laid
  have I3 : Inv X pins σ (upd G2 t2.heap.objs.size o0) { t2 with heap := t2.heap.push { cls := .type "dict", data := .dict #[] } } :=
    I2.laid (t' := t2.toks) (fun b o e => Heap.get?_push_of_some _ e) (Nat.le_refl _) (new0 _ _ I2.big)
  have lt2 : ∀ b ∈ fp, b < t2.heap.objs.size := by
    intro b hb
    obtain ⟨o, e, _⟩ := T.obj _ _ k2 b hb
    exact Heap.lt_size e
  have f3 : ∀ b ∈ fp, FpOk X pins (upd G2 t2.heap.objs.size o0) b ∧ b < (t2.heap.push { cls := .type "dict", data := .dict #[] }).objs.size := by
    intro b hb
    have l := lt2 b hb
    obtain ⟨n, rest⟩ := f2 b hb
    refine ⟨⟨by rw [upd_ne (Nat.ne_of_lt l)]; exact n, rest⟩, ?_⟩
    rw [Heap.size_push]
    exact Nat.lt_succ_of_lt l
  have k3 : trk 0 (t2.heap.push { cls := .type "dict", data := .dict #[] }) := T.keep _ _ _ k2 fun b _ o e => Heap.get?_push_of_some _ e
  have n3 : ∀ b ∈ fp, (upd G2 t2.heap.objs.size o0) b = none := fun b hb => (f3 b hb).1.1
  have I4 := block_start I3 bo nd f3
  generalize eG : upd G2 t2.heap.objs.size o0 = G3 at I3 I4 w0 f3 n3
  generalize et : ({ t2 with heap := t2.heap.push { cls := .type "dict", data := .dict #[] } } : Shared) = t3 at I3 I4 k3
  have D3 : t2.heap.objs.size + 1 = t3.heap.objs.size := by
    rw [← et]
    exact (Heap.size_push _ _).symm
  change codeAny (model X.prog X.w) X.A (.compStart (.DictComp kx vx [⟨tg, iter, ifs, 0⟩] scope pos) 0 (.ref it) (.ref t2.heap.objs.size) (compEnvC scope (cellsFrom (t3.heap.objs.size + 1) scope.names (cloFrom X.env.cells scope.names [])) t3.heap.objs.size X.env))
    (compPost (model X.prog X.w) X.A X.xe use R (.ref t2.heap.objs.size) t3.heap.objs.size) { t3 with heap := pushCells (t3.heap.push { cls := .type "dict", data := .dict #[] }) scope.names }
  have gG := pG t3 G3 t3.heap.objs.size (cellsFrom (t3.heap.objs.size + 1) scope.names (cloFrom X.env.cells scope.names [])) fp
  have gT := pT t3 G3 t3.heap.objs.size (cellsFrom (t3.heap.objs.size + 1) scope.names (cloFrom X.env.cells scope.names [])) fp
  have gK := pK t3 G3 t3.heap.objs.size (cellsFrom (t3.heap.objs.size + 1) scope.names (cloFrom X.env.cells scope.names [])) fp
  have gV := pV t3 G3 t3.heap.objs.size (cellsFrom (t3.heap.objs.size + 1) scope.names (cloFrom X.env.cells scope.names [])) fp
  have gS : S.Runs (X.blk t3 G3 scope (compEnvC scope (cellsFrom (t3.heap.objs.size + 1) scope.names (cloFrom X.env.cells scope.names [])) t3.heap.objs.size X.env) fp) := fun {_ _ _ _ _ _ _ _ _ _ _ _} => run t3 G3 _ _ fp
  have loc : (compEnvC scope (cellsFrom (t3.heap.objs.size + 1) scope.names (cloFrom X.env.cells scope.names [])) t3.heap.objs.size X.env).locals = t3.heap.objs.size := rfl
  have k4 : trk 0 ({ t3 with heap := pushCells (t3.heap.push { cls := .type "dict", data := .dict #[] }) scope.names } : Shared).heap := T.keep _ _ _ (et ▸ k3) fun b _ o e => pushCells_keeps _ _ _ _ (Heap.get?_push_of_some _ e)
  generalize compEnvC scope (cellsFrom (t3.heap.objs.size + 1) scope.names (cloFrom X.env.cells scope.names [])) t3.heap.objs.size X.env = ce at I4 gG gT gK gV gS loc ⊢
  generalize ({ t3 with heap := pushCells (t3.heap.push { cls := .type "dict", data := .dict #[] }) scope.names } : Shared) = t4 at I4 k4 ⊢
  have loop : codeAny (model X.prog X.w) X.A (.compLoop (.DictComp kx vx [⟨tg, iter, ifs, 0⟩] scope pos) 0 (.ref it) (.ref t2.heap.objs.size) ce) (compPost (model X.prog X.w) X.A X.xe use R (.ref t2.heap.objs.size) t3.heap.objs.size) t4 := by
    refine compLoop_anyD (fun m s' => ∃ i H', Inv (X.blk t3 G3 scope ce fp) [] (wipe σ (own.map (·.2))) H' s' ∧ trk i s'.heap ∧ (∀ b ∈ fp, H' b = none) ∧ W i m H') ?_ m0 ⟨0, G3, I4, k4, n3, w0⟩
    rintro m s5 ⟨i, H5, I5, k5, n5, w5⟩
    rcases turn i m H5 w5 with ⟨stop, fine⟩ | ⟨go, N, on, step⟩
    · refine thnF (T.done (X.blk t3 G3 scope ce fp) rfl rfl rfl cal i [] s5 _ H5 (fun _ _ => False) I5 (stays I5 n5) k5 stop) ?_
      rintro r s6 ⟨rfl, I6⟩
      have old := fun b hb => (f3 b hb).1.2
      have I7 : Inv X pins σ H5 s6 := I3.call' (ch := fp) I6.os I6.base I6.hok I6.bare fun b hb => by
        obtain ⟨e1, _, e3, e4, e5⟩ := old b hb
        exact ⟨e3, e1, e4, e5⟩
      have nC : H5 ce.locals = none := I6.free
      obtain ⟨mm, ns, _⟩ := I6.loc
      have ns' : s6.heap.Ns ce.locals mm := ns
      rw [loc] at nC ns'
      exact behind _ _ s6 mm H5 I7 fine ns' (I3.fpOk (Nat.le_refl _) nC)
    · refine thnF (T.item (X.blk t3 G3 scope ce fp) rfl rfl rfl cal i [] s5 _ H5 (fun _ _ => False) I5 (stays I5 n5) k5 go) ?_
      rintro r s6 ⟨u, rfl, a6⟩
      refine thnF a6 ?_
      rintro _ s7 ⟨x, H7, I7, r7, y7, k7, n7⟩
      have P7 := I7.pinned (stays I7 n7) (T.obj _ _ k7)
      refine thnF (gG.run _ s7 _ H7 x u _ P7 r7 (step x H7 y7)) ?_
      rintro _ s8 ⟨τ, H8, I8, same, q8⟩
      refine thnF (gT.run _ s8 τ H8 _ I8 q8) ?_
      rintro b s9 ⟨H9, I9, q9⟩
      have close : ∀ {s' : Shared} {H' : Hp}, Inv (X.blk t3 G3 scope ce fp) ([] ++ pinsAt fp s7.heap) τ H' s' → N H' → ∃ m', m' < m ∧ ∃ i H', Inv (X.blk t3 G3 scope ce fp) [] (wipe σ (own.map (·.2))) H' s' ∧ trk i s'.heap ∧ (∀ b ∈ fp, H' b = none) ∧ W i m' H' := by
        intro s' H' I' n'
        obtain ⟨m', lt, w'⟩ := on H' n'
        have held : ∀ b ∈ fp, ∀ o, s7.heap.get? b = some o → s'.heap.get? b = some o ∧ H' b = none := by
          intro b hb o e
          obtain ⟨z1, z2, _⟩ := I'.pin (b, o) (List.mem_append_right _ (List.mem_append_right _ (mem_pinsAt hb e)))
          exact ⟨z1, z2⟩
        have len : (wipe σ (own.map (·.2))).length = τ.length := by rw [← same, wipe_length]
        refine ⟨m', lt, i + 1, H', (I'.unpinned (pins := [])).weak len ?_, T.keep _ _ _ k7 (fun b hb o e => (held b hb o e).1), ?_, w'⟩
        · intro j v e
          rw [← same] at e
          exact (wipe_some e).1
        · intro b hb
          obtain ⟨o, e, _⟩ := T.obj _ _ k7 b hb
          exact (held b hb o e).2
      cases b with
      | false => exact close I9 (by simpa using q9)
      | true =>
        have q9' : tk τ H9 fun y H3 => tv τ H3 fun z H4 => S H4 t2.heap.objs.size y z N := by simpa using q9
        refine thnF (gK.run _ s9 τ H9 _ I9 q9') ?_
        rintro u1 s10 ⟨y, H10, I10, ry, q10⟩
        refine thnF (gV.run _ s10 τ H10 _ I10 q10) ?_
        rintro u2 s11 ⟨z, H11, I11, rz, q11⟩
        exact gS I11 ry rz q11 fun H' s' I' n' => close I' n'
  exact codeAny_compStart_dict loop (T.self X.A 0 _ _ _ k4 loop)
/-- .. as a value -/
theorem pe_dcS (cal : X.calm = true) (nd : X.N.Nodup) (pI : PI X tg iter wi) (bo : BlkOk X.N X.env.scope scope own) (pG : InBlks X scope fun B => PG B tg g) (pT : InBlks X scope fun B => PTs B ifs tt) (pK : InBlks X scope fun B => PE B kx tk)
    (pV : InBlks X scope fun B => PE B vx tv) (run : InBlks X scope fun B => S.Runs B) (new0 : ∀ (h : Heap) (H : Hp), sysModules < h.objs.size → ObjOk X.prog X.w H (h.push { cls := .type "dict", data := .dict #[] }) h.objs.size o0)
    (fold : ∀ x, foldedSetIterable iter X.env x = pure x := by intro _; rfl) : PE X (.DictComp kx vx [⟨tg, iter, ifs, 0⟩] scope pos) (tDcS S o0 wi g tt tk tv (own.map (·.2))) := by
  constructor
  intro pins s σ H Q I h
  rw [arm_eval_DictComp]
  refine dcS_core cal nd I pI bo pG pT pK pV run new0 fold h ?_
  intro D C s' m H' I' q ns fo
  obtain ⟨f0, f1, _, f3, f4, f5⟩ := fo
  exact ⟨m, ns, fun h'' sb => ⟨.ref D, H', I'.turned (t' := s'.toks) (fun b o hb e => (sb.2 b hb).trans e) f0 f1 f3 f4 f5, rfl, q⟩⟩
/-- .. stored in a local name -/
theorem ps_setDcS {i : Nat} {y : Str} {py spos : Pos} (cal : X.calm = true) (nd : X.N.Nodup) (hy : X.N[i]? = some y) (loc : X.env.scope.names.lookup y = some .local)
    (sw : swapsWith (.DictComp kx vx [⟨tg, iter, ifs, 0⟩] scope pos) (some (.Name y py)) spos.line X.env = pure true) (pI : PI X tg iter wi) (bo : BlkOk X.N X.env.scope scope own) (pG : InBlks X scope fun B => PG B tg g) (pT : InBlks X scope fun B => PTs B ifs tt)
    (pK : InBlks X scope fun B => PE B kx tk) (pV : InBlks X scope fun B => PE B vx tv) (run : InBlks X scope fun B => S.Runs B) (new0 : ∀ (h : Heap) (H : Hp), sysModules < h.objs.size → ObjOk X.prog X.w H (h.push { cls := .type "dict", data := .dict #[] }) h.objs.size o0)
    (fold : ∀ x, foldedSetIterable iter X.env x = pure x := by intro _; rfl) : PS X (.Assign [.Name y py] (.DictComp kx vx [⟨tg, iter, ifs, 0⟩] scope pos) spos) (tAsg (tDcS S o0 wi g tt tk tv (own.map (·.2))) (gName i)) := by
  constructor
  intro pins s σ H D I h
  rw [exec_Assign_Name_used _ _ _ _ sw]
  refine wpAny_bind (wpAny_standAt (wpAny_bind ?_))
  have h1 : tDcS S o0 wi g tt tk tv (own.map (·.2)) σ H (fun x H1 => gName i x σ H1 D.nx) := h
  refine wpAny_bind (thn (dcS_core (R := fun _ s' => SP X pins D .next s') cal nd I pI bo pG pT pK pV run new0 fold h1 ?_) fun _ s' e => wpAny_pure (wpAny_pure e))
  intro L C s' m H' I' q ns fo
  change wpAny _ _ (assign (.Name y py) X.env (.ref L)) _ _ _
  refine wpAny_assign_Name (store_ok2 (v := V.ref L) I' nd hy (.inl loc) rfl ?_ (.inr loc))
  rintro s2 I2 ⟨a, sb, ha⟩
  obtain ⟨f0, f1, f2, f3, f4, f5⟩ := fo
  have ne : C ≠ a := by
    rcases ha with rfl | z
    · exact f1
    · exact Ne.symm (f4 y a z)
  exact ⟨m, ns.sameBut sb ne, fun h3 sb3 => ⟨_, H', I2.turned (t' := s2.toks) (fun b o hb e => (sb3.2 b hb).trans e) f0 f1 f3 f4 f5, q⟩⟩
end
/-- tuple keys -/
theorem runs_in {X : Cx} {scope : Scope} (hu : X.A.units + 1 < cLine) : InBlks X scope fun B => stoT.Runs B := fun s H C cl fp => @stoT_runs (X.blk s H scope (compEnvC scope cl C X.env) fp) hu
theorem swapsD {kx vx : Expr} {gs : List Comprehension} {scope : Scope} {pos py : Pos} {y : Str} {l : Nat} {env : Env} (k : env.scope.kind = .function) (loc : env.scope.names.lookup y = some .local) (line : (py.line == pos.line) = true)
    (own : (scope.names.any fun (n, k) => n == y && (k == .local || k == .cell)) = false) : swapsWith (.DictComp kx vx gs scope pos) (some (.Name y py)) l env = pure true := by
  have h1 : env.kindOf y = some .local := loc
  have h2 : env.blockKind = .function := by
    unfold Env.blockKind
    rw [k]
    rfl
  unfold swapsWith
  simp only [h2, h1, own, Expr.pos, line]
  rfl
end DCT
set_option Elab.async false
set_option linter.all false
set_option maxRecDepth 100000
set_option maxHeartbeats 4000000
/-! dicts by points: made, listed, asked -/
namespace Q
open PySem L2 PySem.Spec PyProof.Rows PySem.Calls PySem.OwnX
open Evl
/-- the key that a lone corner is -/
def kP (p : Int × Int) : List Key := [.inl p.1, .inl p.2, .inl 1]
theorem kP_inj {p q : Int × Int} (h : kP p = kP q) : p = q := by
  unfold kP at h
  injection h with h1 h2
  injection h2 with h2 _
  injection h1 with h1
  injection h2 with h2
  exact Prod.ext h1 h2
theorem c3_key {H : Hp} {v : V} {p : Int × Int} (h : TD1 H v (c3 p)) : ∃ b, v = .ref b ∧ H b = some (.tup ((kP p).map kV)) := by
  obtain ⟨a, xs, rfl, ha, y⟩ := h.tup
  obtain ⟨u1, y1, rfl, x1, y⟩ := y.inv
  obtain ⟨u2, y2, rfl, x2, y⟩ := y.inv
  obtain ⟨u3, y3, rfl, x3, y⟩ := y.inv
  cases y.inv0
  cases x1.int
  cases x2.int
  cases x3.int
  exact ⟨a, rfl, ha⟩
theorem c3_of {H : Hp} {b : Addr} {p : Int × Int} (h : H b = some (.tup ((kP p).map kV))) : TD1 H (.ref b) (c3 p) := TD1.mk h (TDs.int _ (TDs.int _ (TDs.int _ .nil)))
/-- what evaluates to a tuple that is the key k -/
def EvK (te : TE) (σ : L2.St) (H : Hp) (k : List Key) : Prop := ∀ H1, Ex H H1 → ∀ Q : VK, (∀ b H2, Ex H1 H2 → H2 b = some (.tup (k.map kV)) → Q (.ref b) H2) → te σ H1 Q
/-- what evaluates to a new dict by tuples -/
def EvDT (te : TE) (σ : L2.St) (H : Hp) (kvs : List (List Key × V)) : Prop := ∀ H1, Ex H H1 → ∀ Q : VK, (∀ D H2, H1 D = none → Ex H1 H2 → H2 D = some (.dT kvs) → Q (.ref D) H2) → te σ H1 Q
section
variable {α : Type} {enc : α → PyData} {es : List α} {key : α → List Key} {val : α → V} {K : PySem.W.Frag} {σ : L2.St} {H : Hp} {tk tv te : TE} {g : TG} {vs : List Nat} {wi : L2.TI} {D : Ends} {tz : TS}
theorem EvDT.mono {H' : Hp} {kvs : List (List Key × V)} (e : Ex H H') (h : EvDT te σ H kvs) : EvDT te σ H' kvs := fun H1 a Q q => h H1 (e.trans a) Q q
theorem ek_c3 {p : Int × Int} (h : EvD te σ H (c3 p)) : EvK te σ H (kP p) := fun H1 e Q q => h H1 e _ fun v H2 e2 x => by
  obtain ⟨b, rfl, hb⟩ := c3_key x
  exact q b H2 e2 hb
/-- the items put in -/
def puts (key : α → List Key) (val : α → V) (es : List α) : List (List Key × V) := es.foldl (fun ks e => putK ks (key e) (val e)) []
theorem puts_snoc (es : List α) (e : α) : puts key val (es ++ [e]) = putK (puts key val es) (key e) (val e) := by
  unfold puts
  rw [List.foldl_append]
  rfl
theorem puts_len : ∀ es : List α, (puts key val es).length ≤ es.length := by
  have z : ∀ (es : List α) (ks : List (List Key × V)), (es.foldl (fun ks e => putK ks (key e) (val e)) ks).length ≤ ks.length + es.length := by
    intro es
    induction es with
    | nil => intro ks; exact Nat.le_refl _
    | cons e es ih =>
      intro ks
      have h1 := ih (putK ks (key e) (val e))
      have h2 := length_putK ks (key e) (val e)
      simp only [List.foldl_cons, List.length_cons]
      omega
  intro es
  have := z es []
  show (es.foldl (fun ks e => putK ks (key e) (val e)) []).length ≤ es.length
  simpa using this
/-- what one turn owes: the key, the value -/
def TurnK (g : TG) (tk tv : TE) (vs : List Nat) (σ : L2.St) (H : Hp) (enc : α → PyData) (key : α → List Key) (val : α → V) (e : α) : Prop := ∀ v H1, Ex H H1 → TD1 H1 v (enc e) → ∀ kk : L2.St → Hp → Prop,
  (∀ σ2 H2, Ex H1 H2 → wipe σ2 vs = wipe σ vs → EvK tk σ2 H2 (key e) → (∀ H3, Ex H2 H3 → Ev tv σ2 H3 (val e)) → kk σ2 H2) → g v (wipe σ vs) H1 kk
theorem turnk_nm {j : Nat} {e : α} (hw : ∀ x, wipe ((wipe σ vs).set j (some x)) vs = wipe σ vs) (hk : ∀ v H1, Ex H H1 → TD1 H1 v (enc e) → EvK tk ((wipe σ vs).set j (some v)) H1 (key e)) (hv : ∀ v H1, Ex H H1 → TD1 H1 v (enc e) → Ev tv ((wipe σ vs).set j (some v)) H1 (val e)) : TurnK (gName j) tk tv vs σ H enc key val e :=
  fun v H1 e1 x kk k => k _ H1 (Ex.refl _) (hw v) (hk v H1 e1 x) fun H3 e3 => hv v H3 (e1.trans e3) (x.mono e3)
theorem turnk_t2 {i1 i2 : Nat} {e : α} {d1 d2 : PyData} (henc : enc e = .tuple [d1, d2]) (hw : ∀ x y, wipe (((wipe σ vs).set i1 (some x)).set i2 (some y)) vs = wipe σ vs)
    (hk : ∀ u v H1, Ex H H1 → TD1 H1 u d1 → TD1 H1 v d2 → EvK tk (((wipe σ vs).set i1 (some u)).set i2 (some v)) H1 (key e)) (hv : ∀ u v H1, Ex H H1 → TD1 H1 u d1 → TD1 H1 v d2 → Ev tv (((wipe σ vs).set i1 (some u)).set i2 (some v)) H1 (val e)) :
    TurnK (gTup K 2 (gCons (gName i1) (gCons (gName i2) gNil))) tk tv vs σ H enc key val e := fun v H1 e1 x kk k => by
  rw [henc] at x
  obtain ⟨a, xs, rfl, ha, y⟩ := x.tup
  obtain ⟨u1, ys, rfl, x1, y⟩ := y.inv
  obtain ⟨u2, zs, rfl, x2, y⟩ := y.inv
  cases y.inv0
  exact ⟨a, _, rfl, SqT.of ha, rfl, u1, _, rfl, u2, _, rfl, rfl, k _ H1 (Ex.refl _) (hw u1 u2) (hk u1 u2 H1 e1 x1 x2) fun H3 e3 => hv u1 u2 H3 (e1.trans e3) (x1.mono e3) (x2.mono e3)⟩
/-- the dict as it grows -/
def Ck (H : Hp) (key : α → List Key) (val : α → V) (es : List α) (Dd : Addr) (i : Nat) (H' : Hp) : Prop := H Dd = none ∧ Ex H H' ∧ H' Dd = some (.dT (puts key val (es.take i)))
theorem edt_dc (h : EvI wi σ H (es.map enc)) (hz : es.length ≤ 40000) (hs : ∀ e ∈ es, TurnK g tk tv vs σ H enc key val e) : EvDT (DCT.tDcS DCT.stoT (.dT []) wi g tYes tk tv vs) σ H (puts key val es) := fun H0 e0 Q q =>
  h H0 e0 _ fun J H1 e1 dw Dl hD => by
    obtain ⟨G, Y, w, hG, hY⟩ := dw.ex
    rw [List.length_map] at w hY
    refine ⟨fun i m H' => m = es.length - i ∧ i ≤ es.length ∧ Ck H1 key val es Dl i H', ⟨es.length, rfl, Nat.zero_le _, hD, Ex.new hD, by rw [List.take_zero]; exact upd_same⟩, ?_⟩
    rintro i m H2 ⟨rfl, hi, c⟩
    obtain ⟨c1, c2, c3⟩ := c
    by_cases lt : i < es.length
    · refine .inr ⟨w.goes i H2 lt (hG H2 c2), Ck H1 key val es Dl (i + 1), fun H' c' => ⟨es.length - (i + 1), by omega, rfl, lt, c'⟩, fun x H3 y => ?_⟩
      obtain ⟨e3, d, hd, t⟩ := hY i x H2 H3 lt c2 (w.yields i H2 x H3 lt (hG H2 c2) y)
      rw [List.getElem?_map] at hd
      obtain ⟨e, he, rfl⟩ := Option.map_eq_some_iff.mp hd
      refine hs e (List.mem_of_getElem? he) x H3 ((e0.trans e1).trans (c2.trans e3)) t _ fun σ2 H4 e4 hw hk hv => ⟨hw, yes_ite ?_⟩
      refine hk H4 (Ex.refl _) _ fun b H5 e5 hb => hv H5 e5 H5 (Ex.refl _) _ fun H6 e6 => ?_
      have e36 := ((e3.trans e4).trans e5).trans e6
      have ln := puts_len (key := key) (val := val) (es.take i)
      rw [List.length_take] at ln
      refine ⟨_, key e, b, rfl, e36 _ _ c3, sz_lt (by omega), e6 _ _ hb, c1, Ex.mut (c2.trans e36) c1, ?_⟩
      rw [take_snoc he, puts_snoc]
      exact upd_same
    · have ei : i = es.length := by omega
      subst ei
      rw [List.take_length] at c3
      exact .inl ⟨w.stops H2 (hG H2 c2), q Dl H2 (fresh_back e1 c1) (e1.trans c2) c3⟩
theorem q_asgDT {i : Nat} {kvs : List (List Key × V)} (h : EvDT te σ H kvs) (k : ∀ l H1, Ex H H1 → H l = none → H1 l = some (.dT kvs) → tz D (σ.set i (some (.ref l))) H1) : tSeq (tAsg te (gName i)) tz D σ H := h H (Ex.refl H) _ fun l H1 n e hl => k l H1 e n hl
end
/-! what stands in it -/
section
variable {α : Type} {key : α → List Key} {val : α → V}
theorem put_old {κ : Type} [DecidableEq κ] {ks : List (κ × V)} {k : κ} {v : V} (h : (k, v) ∈ ks) (hv : ∀ q ∈ ks, q.2 = v) : putK ks k v = ks := by
  have a : (ks.any fun kv => decide (kv.1 = k)) = true := List.any_eq_true.mpr ⟨_, h, decide_eq_true rfl⟩
  unfold putK
  rw [if_pos a]
  refine (List.map_congr_left fun q hq => ?_).trans (List.map_id ks)
  by_cases c : q.1 = k
  · rw [if_pos c, ← hv q hq]
    rfl
  · rw [if_neg c]
    rfl
theorem valV_absent {κ : Type} [DecidableEq κ] {ks : List (κ × V)} {k : κ} (h : k ∉ ks.map (·.1)) : valV ks k = none := by
  cases e : valV ks k with
  | none => rfl
  | some v => exact absurd (valV_in e) h
/-- points put in with one value: each once -/
theorem puts_pts (v : V) (ps : List (Int × Int)) : ∃ S0 : List (Int × Int), S0.Nodup ∧ (∀ p, p ∈ S0 ↔ p ∈ ps) ∧ puts kP (fun _ => v) ps = S0.map fun p => (kP p, v) := by
  suffices h : ∀ n, n ≤ ps.length → ∃ S0 : List (Int × Int), S0.Nodup ∧ (∀ p, p ∈ S0 ↔ p ∈ ps.take n) ∧ puts kP (fun _ => v) (ps.take n) = S0.map fun p => (kP p, v) by
    have z := h ps.length (Nat.le_refl _)
    rwa [List.take_length] at z
  intro n
  induction n with
  | zero => intro _; exact ⟨[], List.nodup_nil, by simp, rfl⟩
  | succ n ih =>
    intro hn
    obtain ⟨S0, nd, mem, eq⟩ := ih (by omega)
    have he : ps[n]? = some ps[n] := List.getElem?_eq_getElem (by omega)
    rw [take_snoc he, puts_snoc, eq]
    by_cases c : ps[n] ∈ S0
    · refine ⟨S0, nd, fun p => ?_, put_old (List.mem_map.mpr ⟨_, c, rfl⟩) fun q hq => ?_⟩
      · rw [List.mem_append, ← mem p, List.mem_singleton]
        refine ⟨.inl, ?_⟩
        rintro (h | rfl)
        · exact h
        · exact c
      · obtain ⟨p, _, rfl⟩ := List.mem_map.mp hq
        rfl
    · refine ⟨S0 ++ [ps[n]], ?_, fun p => ?_, ?_⟩
      · rw [List.nodup_append]
        refine ⟨nd, by simp, fun a ha b hb => ?_⟩
        rw [List.mem_singleton.mp hb]
        rintro rfl
        exact c ha
      · rw [List.mem_append, List.mem_append, mem p]
      · have z : valV (S0.map fun p => (kP p, v)) (kP ps[n]) = none := valV_absent fun m => by
          rw [List.map_map] at m
          obtain ⟨q, hq, e⟩ := List.mem_map.mp m
          have e' : q = ps[n] := kP_inj e
          exact c (e' ▸ hq)
        rw [putK_new v z, List.map_append]
        rfl
/-- distinct keys put in -/
theorem puts_nd (es : List α) (nd : (es.map key).Nodup) : puts key val es = es.map fun e => (key e, val e) := by
  suffices h : ∀ n, n ≤ es.length → puts key val (es.take n) = (es.take n).map fun e => (key e, val e) by
    have z := h es.length (Nat.le_refl _)
    rwa [List.take_length] at z
  intro n
  induction n with
  | zero => intro _; rfl
  | succ n ih =>
    intro hn
    have he : es[n]? = some es[n] := List.getElem?_eq_getElem (by omega)
    rw [take_snoc he, puts_snoc, ih (by omega), List.map_append]
    refine putK_new _ (valV_absent fun m => ?_)
    rw [List.map_map] at m
    have z : (es.take (n + 1)).map key = (es.take n).map key ++ [key es[n]] := by
      rw [take_snoc he, List.map_append]
      rfl
    have nd1 : ((es.take (n + 1)).map key).Nodup := by
      rw [List.map_take]
      exact nd.sublist (List.take_sublist _ _)
    rw [z, List.nodup_append] at nd1
    exact nd1.2.2 _ m _ (List.mem_singleton.mpr rfl) rfl
theorem val_pts {v : V} {S0 : List (Int × Int)} (p : Int × Int) : valV (S0.map fun p => (kP p, v)) (kP p) = if p ∈ S0 then some v else none := by
  induction S0 with
  | nil => rfl
  | cons q S0 ih =>
    rw [List.map_cons]
    by_cases c : q = p
    · subst c
      rw [valV_pos rfl, if_pos List.mem_cons_self]
    · rw [valV_neg (fun e => c (kP_inj e)), ih]
      by_cases m : p ∈ S0
      · rw [if_pos m, if_pos (List.mem_cons_of_mem _ m)]
      · rw [if_neg m, if_neg (fun h => (List.mem_cons.mp h).elim (fun e => c e.symm) m)]
end
end Q
set_option Elab.async false
set_option linter.all false
set_option maxRecDepth 100000
set_option maxHeartbeats 4000000
namespace Q
open PySem L2 PySem.Spec PyProof.Rows PySem.Calls
open Evl
theorem bd2 : Bd 2 (2 : Int) := ⟨by decide⟩
theorem reads_ints {h : Heap} {vs : List Value} {ns : List Int} (x : IntsAre vs ns) : ReadsAll h vs (ns.map PyData.int) [] := by
  induction x with
  | nil => exact .nil
  | cons n t _ ih => exact .cons (as := []) (bs := []) (.int ..) ih
def maxOf (d : Int) : List Int → Int
  | [] => d
  | n :: ns => ns.foldl max n
/-- max(xs, default=d) of ints -/
def rMaxDf (K : PySem.W.Frag) : List V → List V → Hp → VK → Prop := fun vs zs H Q => ∃ (a : Addr) (ns : List Int) (d : Int), vs = [V.ref a] ∧ zs = [.int d] ∧ SqL K H a (ns.map V.int) ∧ Q (.int (maxOf d ns)) H
section
variable {X : Cx}
theorem cr_maxDf (hc : X.calm = true) (hu : X.A.units + 64 < cLine) : CallRK X (.builtin "max") [Str.ofString "default"] (rMaxDf X.K) := by
  intro pins s σ H vs zs us ws Q I r rz h
  obtain ⟨a, ns, d, rfl, rfl, hs, q⟩ := h
  obtain ⟨its, rv, hl, hz⟩ := I.list hs
  rw [Vals.ref1 r]
  obtain ⟨w1, rfl, t1, rfl⟩ := vals1 rz
  have hi := rv.ints
  have dep : ∀ ms : List Int, PyData.depthAll (ms.map PyData.int) ≤ 5 := fun ms => by
    induction ms with
    | nil => exact Nat.zero_le _
    | cons m ms ih => exact Nat.max_le.mpr ⟨(by simp [PyData.depth]), ih⟩
  refine PySem.W.max_list_default (I.ok.hd hc) hl.isList (reads_ints (h := s.heap) hi) ⟨fun x hx y hy => ?_, fun x hx => ?_⟩ (by have := dep ns; omega) (fun e h' tk keep => ?_) fun y ys i v h' tk bs e hv hr keep => ?_
  · obtain ⟨m, _, rfl⟩ := List.mem_map.mp hx
    obtain ⟨n, _, rfl⟩ := List.mem_map.mp hy
    rfl
  · obtain ⟨m, _, rfl⟩ := List.mem_map.mp hx
    exact fun z => nomatch z
  · have e : ns = [] := List.map_eq_nil_iff.mp e
    subst e
    exact ⟨.int d, H, I.kept (t' := tk) keep, ⟨_, rfl⟩, q⟩
  · match ns, e with
    | n :: ns, e =>
      simp only [List.map_cons, List.cons.injEq] at e
      obtain ⟨e1, e2⟩ := e
      subst e1 e2
      rw [PySem.W.maxD_ints] at hr
      cases hr
      exact ⟨.int _, H, I.kept (t' := tk) keep, ⟨_, rfl⟩, q⟩
end
theorem maxOf_in {d B : Int} (hd : 0 ≤ d ∧ d ≤ B) : ∀ ns : List Int, (∀ n ∈ ns, 0 ≤ n ∧ n ≤ B) → 0 ≤ maxOf d ns ∧ maxOf d ns ≤ B
  | [], _ => hd
  | n :: ns, h => by
    have aux : ∀ (l : List Int) (a : Int), 0 ≤ a ∧ a ≤ B → (∀ m ∈ l, 0 ≤ m ∧ m ≤ B) → 0 ≤ l.foldl max a ∧ l.foldl max a ≤ B := fun l => by
      induction l with
      | nil => exact fun a ha _ => ha
      | cons m l ih => exact fun a ha hl => ih (max a m) (by have := hl m List.mem_cons_self; omega) fun x hx => hl x (List.mem_cons_of_mem _ hx)
    exact aux ns n (h n List.mem_cons_self) fun x hx => h x (List.mem_cons_of_mem _ hx)
theorem maxOf_ge (d : Int) : ∀ ns : List Int, ∀ n ∈ ns, n ≤ maxOf d ns
  | m :: ns, n, h => by
    have aux : ∀ (l : List Int) (a : Int), a ≤ l.foldl max a ∧ ∀ x ∈ l, x ≤ l.foldl max a := fun l => by
      induction l with
      | nil => exact fun a => ⟨Int.le_refl _, fun x hx => absurd hx (by simp)⟩
      | cons y l ih =>
        intro a
        have h1 := (ih (max a y)).1
        have h2 := (ih (max a y)).2
        refine ⟨(by show a ≤ l.foldl max (max a y); omega), fun x hx => ?_⟩
        show x ≤ l.foldl max (max a y)
        rcases List.mem_cons.mp hx with rfl | hx
        · omega
        · exact h2 x hx
    obtain ⟨h1, h2⟩ := aux ns m
    rcases List.mem_cons.mp h with rfl | h
    · exact h1
    · exact h2 n h
def bitsI (n : Int) : Int := (Builtin.Int.intBits n : Int)
def fineB (ns : List Int) : Int := 2 * maxOf 0 (ns.map bitsI)
theorem bits_le {k : Nat} {n : Int} (h : Bd k n) (hk : k ≤ 100000) : 0 ≤ bitsI n ∧ bitsI n ≤ (k : Int) := by
  refine ⟨Int.natCast_nonneg _, ?_⟩
  unfold bitsI Builtin.Int.intBits
  split
  · exact Int.natCast_nonneg _
  · rename_i hz
    have hn : n.natAbs ≠ 0 := by
      intro z
      apply hz
      rw [Int.natAbs_eq_zero.mp z]
      rfl
    have := (Nat.log2_lt hn).mpr h.lt
    omega
abbrev sFB : Stmt := top 22
abbrev sFS : Stmt := top 24
section
variable {K : PySem.W.Frag} {σ : L2.St} {H : Hp} {te tl : TE}
theorem ev_bits {n : Int} (h : Ev te σ H (.int n)) : Ev (tBits te) σ H (.int (bitsI n)) := fun H1 e Q q => h H1 e _ fun H2 e2 => ⟨n, rfl, q H2 e2⟩
theorem ev_maxDf {ns : List Int} {d : Int} (h : EvL te σ H (ns.map V.int)) : Ev (tCKw (rMaxDf K) (tCons te tNil) (tCons (tC (.int d)) tNil)) σ H (.int (maxOf d ns)) := fun H1 e Q q => h H1 e _ fun p H2 _ e2 hp => ⟨p, ns, d, rfl, rfl, SqL.of hp, q H2 e2⟩
/-- over a list of pairs of ints, each taken apart -/
theorem el_lcP {a : Addr} {ts : List Addr} {ms : List (Int × Int)} {i j : Nat} {vs : List Nat} (v : Nat → V) (h : Ev tl σ H (.ref a)) (hx : SqL K H a (ts.map V.ref)) (hp : ∀ (k : Nat) t m, ts[k]? = some t → ms[k]? = some m → H t = some (.tup [.int m.1, .int m.2])) (hl : ts.length = ms.length) (hz : ts.length ≤ 40000)
    (hw : ∀ x y, wipe (((wipe σ vs).set i (some x)).set j (some y)) vs = wipe σ vs)
    (he : ∀ (k : Nat) m H1, Ex H H1 → ms[k]? = some m → Ev te (((wipe σ vs).set i (some (.int m.1))).set j (some (.int m.2))) H1 (v k)) :
    EvL (tLc (iList K tl) (gTup K 2 (gCons (gName i) (gCons (gName j) gNil))) tYes te vs) σ H (given ts.length (fun _ => true) v) := fun H0 e Q q => h H0 e _ fun H1 e1 => ⟨a, rfl, ⟨_, ex_l (e.trans e1) hx⟩, fun Dl hD =>
  lc_list (xs := ts.map V.ref) (Cw H1 (fun _ => true) v Dl) ⟨hD, Ex.new hD, upd_same⟩ (fun i H' _ p => ex_l ((e.trans e1).trans p.2.1) hx) (fun k x H' hi p => by
    have hlt : k < (ts.map V.ref).length := (List.getElem?_eq_some_iff.mp hi).1
    rw [List.length_map] at hlt
    have ht : ts[k]? = some ts[k] := List.getElem?_eq_getElem hlt
    have hm : ms[k]? = some (ms[k]'(by omega)) := List.getElem?_eq_getElem (by omega)
    rw [List.getElem?_map, ht] at hi
    cases hi
    have hH := ((e.trans e1).trans p.2.1) _ _ (hp k _ _ ht hm)
    exact ⟨_, _, rfl, SqT.of hH, rfl, _, _, rfl, _, _, rfl, rfl, hw _ _, cw_turn p (by omega) et_yes fun _ => he k _ H1 (e.trans e1) hm⟩)
    (fun H' p => by
      rw [List.length_map] at p
      exact q Dl H' (fresh_back e1 p.1) (e1.trans p.2.1) p.2.2)⟩
end
def spFB (K : PySem.W.Frag) : Sp := fun vs H Q _ => ∃ (a : Addr) (ns : List Int), vs = [.ref a] ∧ SqL K H a (ns.map V.int) ∧ ns.length ≤ 1000 ∧ (∀ n ∈ ns, Bd 6000 n) ∧ ∀ H', Ex H H' → Q (.int (fineB ns)) H'
def steps (ms : List (Int × Int)) : List Int := ms.map fun m => (m.1 * 2 ^ (fineB (ms.map (·.2))).toNat).fdiv m.2
def spFS (K : PySem.W.Frag) : Sp := fun vs H Q _ => ∃ (a : Addr) (ts : List Addr) (ms : List (Int × Int)), vs = [.ref a] ∧ SqL K H a (ts.map V.ref) ∧ (∀ (k : Nat) t m, ts[k]? = some t → ms[k]? = some m → H t = some (.tup [.int m.1, .int m.2])) ∧ ts.length = ms.length ∧ ts.length ≤ 1000 ∧
  (∀ m ∈ ms, Bd 6000 m.1 ∧ Bd 6000 m.2 ∧ m.2 ≠ 0) ∧ ∀ l H', H l = none → Ex H H' → H' l = some (.lst ((steps ms).map V.int)) → Q (.ref l) H'
section
variable {P : Program} {w : World} {K : PySem.W.Frag} {mg : Str → Option Value} {base : Heap}
theorem scFB : FnScope ["bottoms", "bottom"] ["bottoms"] (defScope sFB) := ⟨rfl, rfl, rfl, by decide +kernel, rfl, by decide +kernel, by decide +kernel⟩
theorem ok_fb {f : Addr} {fd : FuncData} (F : Fun K "fine_bits" "fine_bits" sFB f fd) (T : TB mg) : FnOk P w K mg base CX0 1 f fd ["bottoms"] (spFB K) := by
  refine F.ok scFB (fun vs H Q E h => ?_) (fun cdv A outer s H vs Q E hr h => ?_)
  · obtain ⟨a, ns, rfl, _⟩ := h
    rfl
  · obtain ⟨a, ns, rfl, ha, hl, hb, k⟩ := h
    have hun := hr.units
    refine ⟨_, pss_one (ps_ret (pe_op op_mulW pe_int (pe_callBK (cr_maxDf rfl hun) (by rfl) T.max (by decide +kernel) (pa_cons (pe_lc (own := [("bottom", 1)]) (g := gName 1) (by rfl) scFB.nd (pi_list (pv 0))
            (blkOk_by (own := [("bottom", 1)]) (N := ["bottoms", "bottom"]) (sc := defScope sFB) (by decide +kernel))
            (fun _ _ _ _ _ => pg_name (i := 1) scFB.nd rfl (Or.inl rfl)) (fun _ _ _ _ _ => pts_nil)
            (te := tBits (tVar 1)) (fun _ _ _ _ _ => by exact (pe_bits (pv 1)))) pa_nil) (pk_cons pe_int pk_nil)))), ?_⟩
    have hL : EvL (tLc (iList K (tVar 0)) (gName 1) tYes (tBits (tVar 1)) [1]) (L2.start ["bottoms", "bottom"] [.ref a]) H ((ns.map bitsI).map V.int) := by
      have z := el_lcL (K := K) (σ := L2.start ["bottoms", "bottom"] [.ref a]) (H := H) (t := tYes) (te := tBits (tVar 1)) (tl := tVar 0) (j := 1) (vs := [1]) (fun _ => true) (fun i => V.int (bitsI (ns.getD i 0))) (ev_var rfl) ha (by rw [List.length_map]; omega) (fun _ => rfl) (fun i x H1 e hx => et_yes) (fun i x H1 e hx _ => by
        rw [List.getElem?_map] at hx
        cases hn : ns[i]? with
        | none =>
          rw [hn] at hx
          cases hx
        | some n =>
          rw [hn] at hx
          cases hx
          rw [List.getD_eq_getElem?_getD, hn]
          exact ev_bits (ev_var rfl))
      rw [List.length_map, given_map ns (fun n => V.int (bitsI n)) 0] at z
      rw [List.map_map]
      exact z
    have z := maxOf_in (d := 0) (B := 6000) (by omega) (ns.map bitsI) (fun n hn => by
      obtain ⟨m, hm, rfl⟩ := List.mem_map.mp hn
      exact bits_le (hb m hm) (by decide))
    exact s_ret (ev_op ev_c (ev_maxDf hL) (rv_I (bd2.mw (⟨Nat.lt_of_le_of_lt (show _ ≤ 6000 by omega) (by decide)⟩ : Bd 20 _) (by decide)))) fun H1 e1 => k H1 e1
theorem ev_fb {σ : L2.St} {H : Hp} {te : TE} {E : XK} {ns : List Int} (h : EvL te σ H (ns.map V.int)) (hl : ns.length ≤ 1000) (hb : ∀ n ∈ ns, Bd 6000 n) : Ev (tCall (spFB K) [] E (tCons te tNil)) σ H (.int (fineB ns)) := fun H1 e Q q => h H1 e _ fun p H2 _ e2 hp => ⟨p, ns, rfl, SqL.of hp, hl, hb, fun H3 e3 => q H3 (e2.trans e3)⟩
theorem scFS : FnScope ["fractions", "bits", "top", "bottom"] ["fractions"] (defScope sFS) := ⟨rfl, rfl, rfl, by decide +kernel, rfl, by decide +kernel, by decide +kernel⟩
theorem ok_fs {f : Addr} {fd : FuncData} (F : Fun K "fraction_steps" "fraction_steps" sFS f fd) (CB : Cl P w K mg base 1 "fine_bits" (spFB K)) : FnOk P w K mg base CX0 2 f fd ["fractions"] (spFS K) := by
  refine F.ok scFS (fun vs H Q E h => ?_) (fun cdv A outer s H vs Q E hr h => ?_)
  · obtain ⟨a, ts, ms, rfl, _⟩ := h
    rfl
  · obtain ⟨a, ts, ms, rfl, ha, hp, hl, hz, hb, k⟩ := h
    refine ⟨_, (pss_cons (ps_set (i := 1) scFS.nd rfl (Or.inr rfl) (pe_cl CB hr (by decide) (by rfl) (pa_cons (pe_lc (own := [("top", 2), ("bottom", 3)]) (g := gTup K 2 (gCons (gName 2) (gCons (gName 3) gNil))) (by rfl) scFS.nd (pi_list (pv 0))
            (blkOk_by (own := [("top", 2), ("bottom", 3)]) (N := ["fractions", "bits", "top", "bottom"]) (sc := defScope sFS) (by decide +kernel))
            (fun _ _ _ _ _ => by exact (pg_tup (by rfl) (pgs_cons (pg_name (i := 2) scFS.nd rfl (Or.inl rfl)) (pgs_cons (pg_name (i := 3) scFS.nd rfl (Or.inl rfl)) pgs_nil)))) (fun _ _ _ _ _ => pts_nil)
            (te := tVar 3) (fun _ _ _ _ _ => by exact (pv 3))) pa_nil)))
      (pss_one (ps_ret (pe_lc (own := [("top", 2), ("bottom", 3)]) (g := gTup K 2 (gCons (gName 2) (gCons (gName 3) gNil))) (by rfl) scFS.nd (pi_list (pv 0))
            (blkOk_by (own := [("top", 2), ("bottom", 3)]) (N := ["fractions", "bits", "top", "bottom"]) (sc := defScope sFS) (by decide +kernel))
            (fun _ _ _ _ _ => by exact (pg_tup (by rfl) (pgs_cons (pg_name (i := 2) scFS.nd rfl (Or.inl rfl)) (pgs_cons (pg_name (i := 3) scFS.nd rfl (Or.inl rfl)) pgs_nil)))) (fun _ _ _ _ _ => pts_nil)
            (te := tOp (rI CDv fun i j => .int (i.fdiv j)) (tOp (rI CShl fun i j => .int (i * 2 ^ j.toNat)) (tVar 2) (tVar 1)) (tVar 3)) (fun _ _ _ _ _ => by exact (pe_op op_dv (pe_op op_shlW (pv 2) (pv 1)) (pv 3))))))), ?_⟩
    have hb2 : ∀ n ∈ ms.map (·.2), Bd 6000 n := fun n hn => by
      obtain ⟨m, hm, rfl⟩ := List.mem_map.mp hn
      exact (hb m hm).2.1
    have hB : 0 ≤ fineB (ms.map (·.2)) ∧ fineB (ms.map (·.2)) ≤ 12000 := by
      have z := maxOf_in (d := 0) (B := 6000) (by omega) ((ms.map (·.2)).map bitsI) (fun n hn => by
        obtain ⟨m, hm, rfl⟩ := List.mem_map.mp hn
        exact bits_le (hb2 m hm) (by decide))
      unfold fineB
      omega
    have z1 := el_lcP (K := K) (σ := L2.start ["fractions", "bits", "top", "bottom"] [.ref a]) (H := H) (te := tVar 3) (tl := tVar 0) (i := 2) (j := 3) (vs := [2, 3]) (fun k => V.int (ms.getD k (0, 0)).2) (ev_var rfl) ha hp hl (by omega) (fun _ _ => rfl) (fun k m H1 e hm => by
      rw [getD_at hm]
      exact ev_var rfl)
    rw [hl, given_map ms (fun m => V.int m.2) (0, 0)] at z1
    refine q_asg (ev_fb (K := K) (ns := ms.map (·.2)) (by rw [List.map_map]; exact z1) (by rw [List.length_map]; omega) hb2) fun H1 e1 => ?_
    have ha1 := ex_l e1 ha
    generalize hbit : fineB (ms.map (·.2)) = B at hB
    have z2 := el_lcP (K := K) (σ := [some (.ref a), some (.int B), none, none]) (H := H1) (te := tOp (rI CDv fun i j => .int (i.fdiv j)) (tOp (rI CShl fun i j => .int (i * 2 ^ j.toNat)) (tVar 2) (tVar 1)) (tVar 3)) (tl := tVar 0) (i := 2) (j := 3) (vs := [2, 3]) (fun k => V.int (((ms.getD k (0, 0)).1 * 2 ^ B.toNat).fdiv (ms.getD k (0, 0)).2)) (ev_var rfl) ha1 (fun k t m h1 h2 => e1 _ _ (hp k t m h1 h2)) hl (by omega) (fun _ _ => rfl) (fun k m H2 e hm => by
      rw [getD_at hm]
      obtain ⟨b1, b2, n0⟩ := hb m (List.mem_of_getElem? hm)
      have c1 := bits_le b1 (by decide)
      exact ev_op (ev_op (ev_var rfl) (ev_var rfl) (rv_I ⟨hB.1, by
        have e2 : (2 : Int) ^ 27 = 134217728 := by decide
        rw [e2]
        show bitsI m.1 + B ≤ 134217728
        omega⟩)) (ev_var rfl) (rv_I ⟨n0, b2.log (by decide)⟩))
    rw [hl, given_map ms (fun m => V.int ((m.1 * 2 ^ B.toNat).fdiv m.2)) (0, 0)] at z2
    refine s_retL z2 fun l H2 hl2 e2 h2 => k l H2 (fresh_back e1 hl2) (e1.trans e2) ?_
    unfold steps
    rw [hbit, List.map_map]
    exact h2
end
end Q
set_option Elab.async false
set_option linter.all false
set_option maxRecDepth 100000
set_option maxHeartbeats 4000000
/-! points put in order; a cut without sides -/
namespace Q
open PySem L2 PySem.Spec PyProof.Rows PySem.Calls PySem.OwnX
open Evl
abbrev sStO : Stmt := top 23
abbrev sPOS : Stmt := top 45
abbrev sCut : Stmt := top 44
/-- lone corners, not too many, not too wide -/
structure PsB (ps : List (Int × Int)) : Prop where
  len : ps.length ≤ 1000
  b : ∀ p ∈ ps, Bd 100 p.1 ∧ Bd 100 p.2
theorem PsB.of {ps qs : List (Int × Int)} (h : PsB ps) (m : ∀ p ∈ qs, p ∈ ps) (l : qs.length ≤ ps.length) : PsB qs := ⟨Nat.le_trans l h.len, fun p hp => h.b p (m p hp)⟩
/-- the same points in order, each once -/
structure Spots (ps S : List (Int × Int)) : Prop where
  nd : S.Nodup
  mem : ∀ p, p ∈ S ↔ p ∈ ps
theorem nodup_len {α : Type} [DecidableEq α] : ∀ {S ps : List α}, S.Nodup → (∀ p ∈ S, p ∈ ps) → S.length ≤ ps.length
  | [], _, _, _ => Nat.zero_le _
  | a :: S, ps, nd, m => by
    rw [List.nodup_cons] at nd
    have ha := m a List.mem_cons_self
    have z := nodup_len (S := S) (ps := ps.erase a) nd.2 fun p hp => (List.mem_erase_of_ne (fun (e : p = a) => nd.1 (e ▸ hp))).mpr (m p (List.mem_cons_of_mem _ hp))
    rw [List.length_erase_of_mem ha] at z
    have := List.length_pos_of_mem ha
    simp only [List.length_cons]
    omega
theorem Spots.psb {ps S : List (Int × Int)} (s : Spots ps S) (h : PsB ps) : PsB S := h.of (fun p hp => (s.mem p).mp hp) (nodup_len s.nd fun p hp => (s.mem p).mp hp)
theorem Spots.one {ps S : List (Int × Int)} (s : Spots ps S) (nd : ps.Nodup) : S.length = ps.length := Nat.le_antisymm (nodup_len s.nd fun p hp => (s.mem p).mp hp) (nodup_len nd fun p hp => (s.mem p).mpr hp)
def stepD (B : Int) (p : Int × Int) : PyData := .tuple [.int ((p.1 * 2 ^ B.toNat).fdiv 1), .int ((p.2 * 2 ^ B.toNat).fdiv 1)]
def spStO : Sp := fun vs H Q _ => ∃ (a : Addr) (xs : List V) (S : List (Int × Int)), vs = [.ref a] ∧ H a = some (.lst xs) ∧ TDs H xs (S.map c3) ∧ PsB S ∧ ∀ l ys B H', H l = none → Ex H H' → H' l = some (.lst ys) → TDs H' ys (S.map (stepD B)) → Q (.ref l) H'
def spPOS : Sp := fun vs H Q _ => ∃ (a : Addr) (v : V), vs = [.ref a, v] ∧ H a = some (.lst []) ∧ ∀ l H', H l = none → Ex H H' → H' l = some (.lst []) → Q (.ref l) H'
/-- what a cut without sides tells -/
structure CutA (H : Hp) (t : Addr) (S : List (Int × Int)) (B : Int) (c1 c2 c3' : Addr) : Prop where
  tup : H t = some (.tup [.ref c1, .ref c2, .ref c3'])
  spots : ∃ xs, H c1 = some (.lst xs) ∧ TDs H xs (S.map c3)
  steps : ∃ xs, H c2 = some (.lst xs) ∧ TDs H xs (S.map (stepD B))
  chains : H c3' = some (.lst [])
def spCut : Sp := fun vs H Q _ => ∃ (a b : Addr) (xs : List V) (ps : List (Int × Int)), vs = [.ref a, .ref b] ∧ H a = some (.lst []) ∧ H b = some (.lst xs) ∧ TDs H xs (ps.map c3) ∧ PsB ps ∧
  ∀ t S B c1 c2 c3' H', Ex H H' → Spots ps S → CutA H' t S B c1 c2 c3' → Q (.ref t) H'
section
variable {K : PySem.W.Frag} {σ : L2.St} {H : Hp} {te tl : TE} {E : XK} {D : Ends} {tz : TS}
theorem el_ofDs {ns : List Int} (h : EvDs te σ H (ns.map PyData.int)) : EvL te σ H (ns.map V.int) := fun H1 e Q q => h H1 e _ fun p xs H2 n e2 hp x => by
  rw [x.ints_inv] at hp
  exact q p H2 n e2 hp
theorem go_sortI {nss : List (List Int)} {dd : Nat} (h : EvLd te σ H (nss.map fun ns => .tuple (ns.map PyData.int))) (hd : 1 ≤ dd) (hl : ∀ ns ∈ nss, ns.length = dd) {H1 : Hp} (e0 : Ex H H1) {Q : VK}
    (k : ∀ (r : Addr) (ys : List V) (mss : List (List Int)) H2, H1 r = none → Ex H1 H2 → H2 r = some (.lst ys) → TDs H2 ys (mss.map fun ns => .tuple (ns.map PyData.int)) → mss.Perm nss → mss.Pairwise (fun a b => Lx.lexL b a = false) → Q (.ref r) H2) : tCB (rSortLex K) (tCons te tNil) σ H1 Q :=
  h H1 e0 _ fun p xs H2 e hp tp => by
    -- what each value tells
    have one : ∀ x ∈ xs, ∃ a ns, x = V.ref a ∧ H2 a = some (.tup (ns.map V.int)) ∧ ns ∈ nss := fun x hx => by
      obtain ⟨j, hj⟩ := List.mem_iff_getElem?.mp hx
      obtain ⟨d, hd, t⟩ := tp.to hj
      rw [List.getElem?_map] at hd
      obtain ⟨ns, hns, rfl⟩ := Option.map_eq_some_iff.mp hd
      obtain ⟨a, ys, rfl, ha, t2⟩ := t.tup
      rw [t2.ints_inv] at ha
      exact ⟨a, ns, rfl, ha, List.mem_of_getElem? hns⟩
    let kf : V → List Int := fun v => match v with
      | .ref a => match H2 a with
        | some (.tup zs) => zs.map fun v => match v with | .int i => i | _ => 0
        | _ => []
      | _ => []
    have kfe : ∀ {a : Addr} {ns : List Int}, H2 a = some (.tup (ns.map V.int)) → kf (.ref a) = ns := fun {a ns} ha => by
      show (match H2 a with
        | some (.tup zs) => zs.map fun v => match v with | .int i => i | _ => 0
        | _ => []) = ns
      rw [ha]
      show (ns.map V.int).map _ = ns
      rw [List.map_map]
      exact List.map_id' ns
    refine ⟨p, xs, kf, dd, rfl, SqL.of hp, hd, fun x hx => ?_, fun ys r py pw hr => ?_⟩
    · obtain ⟨a, ns, rfl, ha, hm⟩ := one x hx
      rw [kfe ha]
      exact ⟨⟨a, rfl, SqT.of ha⟩, hl ns hm⟩
    · have eN := Ex.new (o := .lst ys) hr
      refine k r ys (ys.map kf) _ (fresh_back e hr) (e.trans eN) upd_same ?_ ?_ ?_
      · have aux : ∀ zs : List V, (∀ x ∈ zs, x ∈ xs) → TDs (upd H2 r (.lst ys)) zs ((zs.map kf).map fun ns => .tuple (ns.map PyData.int)) := fun zs => by
          induction zs with
          | nil => exact fun _ => .nil
          | cons z zs ih =>
            intro hz
            obtain ⟨a, ns, rfl, ha, hm⟩ := one z (hz z List.mem_cons_self)
            refine TDs.cons ?_ (ih fun x hx => hz x (List.mem_cons_of_mem _ hx))
            rw [kfe ha]
            exact TD1.mk (eN _ _ ha) (TDs.ints ns)
        exact aux ys fun x hx => py.mem_iff.mp hx
      · have e1 : xs.map kf = nss := by
          have l1 := tp.len
          rw [List.length_map] at l1
          refine List.ext_getElem? fun j => ?_
          rw [List.getElem?_map]
          cases hj : xs[j]? with
          | none =>
            have := List.getElem?_eq_none_iff.mp hj
            rw [List.getElem?_eq_none (by omega)]
            rfl
          | some x =>
            obtain ⟨d, hd, t⟩ := tp.to hj
            rw [List.getElem?_map] at hd
            obtain ⟨ns, hns, rfl⟩ := Option.map_eq_some_iff.mp hd
            obtain ⟨a, ys2, rfl, ha, t2⟩ := t.tup
            rw [t2.ints_inv] at ha
            show some (kf (.ref a)) = _
            rw [kfe ha, hns]
        rw [← e1]
        exact py.map kf
      · rw [List.pairwise_map]
        exact pw
end
section
variable {α : Type} {enc : α → PyData} {p : α → Bool} {F : α → PyData} {σ : L2.St} {H : Hp} {te : TE} {tt : TT} {vs : List Nat} {K : PySem.W.Frag}
/-- the target three names -/
theorem turn_t3 {i1 i2 i3 : Nat} {e : α} {d1 d2 d3 : PyData} (henc : enc e = .tuple [d1, d2, d3]) (hw : ∀ x y z, wipe ((((wipe σ vs).set i1 (some x)).set i2 (some y)).set i3 (some z)) vs = wipe σ vs)
    (ht : ∀ u v w H1, Ex H H1 → TD1 H1 u d1 → TD1 H1 v d2 → TD1 H1 w d3 → EvT tt ((((wipe σ vs).set i1 (some u)).set i2 (some v)).set i3 (some w)) H1 (p e)) (he : ∀ u v w H1, Ex H H1 → TD1 H1 u d1 → TD1 H1 v d2 → TD1 H1 w d3 → p e = true → EvD te ((((wipe σ vs).set i1 (some u)).set i2 (some v)).set i3 (some w)) H1 (F e)) :
    Turn1 (gTup K 3 (gCons (gName i1) (gCons (gName i2) (gCons (gName i3) gNil)))) tt te vs σ H enc p F e := fun v H1 e1 x kk k => by
  rw [henc] at x
  obtain ⟨a, xs, rfl, ha, y⟩ := x.tup
  obtain ⟨u1, ys, rfl, x1, y⟩ := y.inv
  obtain ⟨u2, zs, rfl, x2, y⟩ := y.inv
  obtain ⟨u3, zs, rfl, x3, y⟩ := y.inv
  cases y.inv0
  exact ⟨a, _, rfl, SqT.of ha, rfl, u1, _, rfl, u2, _, rfl, u3, _, rfl, rfl, k _ H1 (Ex.refl _) (hw u1 u2 u3) (ht u1 u2 u3 H1 e1 x1 x2 x3) (he u1 u2 u3 H1 e1 x1 x2 x3)⟩
end
section
variable {P : Program} {w : World} {K : PySem.W.Frag} {mg : Str → Option Value} {base : Heap}
abbrev nmStO : List Str := ["points", "bits", "x", "y", "w", "point"]
theorem scStO : FnScope nmStO ["points"] (defScope sStO) := ⟨rfl, rfl, rfl, by decide +kernel, rfl, by decide +kernel, by decide +kernel⟩
theorem ok_sto {f : Addr} {fd : FuncData} (F : Fun K "steps_of" "steps_of" sStO f fd) (CB : Cl P w K mg base 1 "fine_bits" (spFB K)) : FnOk P w K mg base CX0 2 f fd ["points"] spStO := by
  refine F.ok scStO (fun vs H Q E h => ?_) (fun cdv A' outer s H vs Q E hr h => ?_)
  · obtain ⟨a, xs, S, rfl, _⟩ := h
    rfl
  · obtain ⟨a, xs, S, rfl, ha, t, pb, q⟩ := h
    refine ⟨_, (pss_cons (ps_set (i := 1) scStO.nd rfl (Or.inr rfl) (pe_cl CB hr (by decide) (by rfl) (pa_cons (pe_lc (own := [("point", 5)]) (g := gName 5) (by rfl) scStO.nd (pi_list (pv 0))
        (blkOk_by (own := [("point", 5)]) (N := nmStO) (sc := defScope sStO) (by decide +kernel))
        (fun _ _ _ _ _ => by exact (pg_name (i := 5) scStO.nd rfl (Or.inl rfl))) (fun _ _ _ _ _ => pts_nil)
        (te := (tOp (rIxT K) (tVar 5) (tC (.int 2)))) (fun _ _ _ _ _ => by exact (pe_ix ix_tup (pv 5) pe_int (fun _ _ => rfl)))) pa_nil)))
      (pss_one (ps_ret (pe_lc (own := [("x", 2), ("y", 3), ("w", 4)]) (g := gTup K 3 (gCons (gName 2) (gCons (gName 3) (gCons (gName 4) gNil)))) (by rfl) scStO.nd (pi_list (pv 0))
        (blkOk_by (own := [("x", 2), ("y", 3), ("w", 4)]) (N := nmStO) (sc := defScope sStO) (by decide +kernel))
        (fun _ _ _ _ _ => by exact (pg_tup (by rfl) (pgs_cons (pg_name (i := 2) scStO.nd rfl (Or.inl rfl)) (pgs_cons (pg_name (i := 3) scStO.nd rfl (Or.inl rfl)) (pgs_cons (pg_name (i := 4) scStO.nd rfl (Or.inl rfl)) pgs_nil))))) (fun _ _ _ _ _ => pts_nil)
        (te := (tTup (tCons (tOp (rI CDv fun i j => .int (i.fdiv j)) (tOp (rI CShl fun i j => .int (i * 2 ^ j.toNat)) (tVar 2) (tVar 1)) (tVar 4)) (tCons (tOp (rI CDv fun i j => .int (i.fdiv j)) (tOp (rI CShl fun i j => .int (i * 2 ^ j.toNat)) (tVar 3) (tVar 1)) (tVar 4)) tNil)))) (fun _ _ _ _ _ => by exact (pe_tup (by exact (pa_cons (pe_op op_dv (pe_op op_shlW (pv 2) (pv 1)) (pv 4)) (pa_cons (pe_op op_dv (pe_op op_shlW (pv 3) (pv 1)) (pv 4)) pa_nil))))))))), ?_⟩
    have h1 := eds_it (σ := [some (.ref a), none, none, none, none, none]) (enc := c3) (es := S) (te := tOp (rIxT K) (tVar 5) (tC (.int 2))) (g := gName 5) (vs := [5]) (tt := tYes) (fun _ => true) (fun _ => PyData.int 1) (ei_list (K := K) (ld_of (ev_var (i := 0) rfl) ha t)) (Nat.le_trans pb.len (by decide)) fun p hp => turn_nm (fun _ => rfl) (fun _ _ _ _ => et_yes) fun v H2 e2 x _ => ed_ix (ed_var rfl x) ⟨by decide, rfl⟩
    rw [filt_all] at h1
    have h2 : EvL _ _ H ((S.map fun _ => (1 : Int)).map V.int) := el_ofDs (by rw [List.map_map]; exact h1)
    have b1 : ∀ n ∈ S.map (fun _ => (1 : Int)), Bd 6000 n := fun n hn => by
      obtain ⟨_, _, rfl⟩ := List.mem_map.mp hn
      exact (⟨by decide⟩ : Bd 2 (1 : Int)).le (by decide)
    have hB : 0 ≤ fineB (S.map fun _ => (1 : Int)) ∧ fineB (S.map fun _ => (1 : Int)) ≤ 12000 := by
      have z := maxOf_in (d := 0) (B := 6000) (by omega) ((S.map fun _ => (1 : Int)).map bitsI) (fun n hn => by
        obtain ⟨m, hm, rfl⟩ := List.mem_map.mp hn
        exact bits_le (b1 m hm) (by decide))
      unfold fineB
      omega
    refine q_asg (ev_fb h2 (by rw [List.length_map]; exact pb.len) b1) fun H1 e1 => ?_
    generalize fineB (S.map fun _ => (1 : Int)) = B at hB
    have one : ∀ {n : Int} {j : Nat} {H2 : Hp} {τ : L2.St}, Bd 100 n → τ[j]? = some (some (.int n)) → τ[1]? = some (some (.int B)) → τ[4]? = some (some (.int 1)) → EvD (tOp (rI CDv fun i j => .int (i.fdiv j)) (tOp (rI CShl fun i j => .int (i * 2 ^ j.toNat)) (tVar j) (tVar 1)) (tVar 4)) τ H2 (.int ((n * 2 ^ B.toNat).fdiv 1)) := fun {n j H2 τ} bn h0 h1 h4 =>
      ed_int (ev_op (ev_op (ev_var h0) (ev_var h1) (rv_I ⟨hB.1, by
        have c1 := bits_le bn (by decide)
        have e2 : (2 : Int) ^ 27 = 134217728 := by decide
        rw [e2]
        have c2 : bitsI n ≤ 100 := c1.2
        unfold bitsI at c2
        omega⟩)) (ev_var h4) (rv_I ⟨by decide, by decide⟩))
    have h3 := eds_it (σ := [some (.ref a), some (.int B), none, none, none, none]) (enc := c3) (es := S) (te := tTup (tCons (tOp (rI CDv fun i j => .int (i.fdiv j)) (tOp (rI CShl fun i j => .int (i * 2 ^ j.toNat)) (tVar 2) (tVar 1)) (tVar 4)) (tCons (tOp (rI CDv fun i j => .int (i.fdiv j)) (tOp (rI CShl fun i j => .int (i * 2 ^ j.toNat)) (tVar 3) (tVar 1)) (tVar 4)) tNil))) (g := gTup K 3 (gCons (gName 2) (gCons (gName 3) (gCons (gName 4) gNil)))) (vs := [2, 3, 4]) (tt := tYes) (fun _ => true) (stepD B)
      (ei_list (K := K) (ld_of (ev_var (i := 0) rfl) (e1 _ _ ha) (t.mono e1))) (Nat.le_trans pb.len (by decide)) fun p hp => turn_t3 (d1 := .int p.1) (d2 := .int p.2) (d3 := .int 1) rfl (fun _ _ _ => rfl) (fun _ _ _ _ _ _ _ _ => et_yes) fun u v z H2 e2 x1 x2 x3 _ => by
        cases x1.int
        cases x2.int
        cases x3.int
        exact ed_tup (da_cons (one (pb.b p hp).1 rfl rfl rfl) (da_cons (one (pb.b p hp).2 rfl rfl rfl) da_nil)) (show (2 : Nat) ≤ 100000 by decide)
    rw [filt_all] at h3
    exact s_retDs h3 fun l ys H2 hn e2 hl y => q l ys B H2 (fresh_back e1 hn) (e1.trans e2) hl y
end
end Q
set_option Elab.async false
set_option linter.all false
set_option maxRecDepth 100000
set_option maxHeartbeats 4000000
/-! a cut without sides -/
namespace Q
open PySem L2 PySem.Spec PyProof.Rows PySem.Calls PySem.OwnX
open Evl
section
variable {K : PySem.W.Frag} {σ : L2.St} {H : Hp} {te tl : TE} {tt : TT} {g : TG} {tb tz : TS} {vs : List Nat} {wi : L2.TI} {D : Ends} {a : Addr} {xs : List V}
theorem q_asgQ {i : Nat} (h : te σ H fun v H1 => tz D (σ.set i (some v)) H1) : tSeq (tAsg te (gName i)) tz D σ H := h
theorem s_retQ (h : te σ H D.rt) : tRet te D σ H := h
theorem go_call1 {sp : Sp} {E : XK} {Q : VK} (h : te σ H fun v H1 => sp [v] H1 Q E) : tCall sp [] E (tCons te tNil) σ H Q := h
theorem go_cb1 {r : List V → Hp → VK → Prop} {Q : VK} (h : te σ H fun v H1 => r [v] H1 Q) : tCB r (tCons te tNil) σ H Q := h
/-- a for over nothing -/
theorem s_forE (h : EvI wi σ H []) (k : ∀ H1, Ex H H1 → D.nx σ H1) : tFor wi g tb D σ H := h H (Ex.refl H) _ fun J H1 e dw => by
  obtain ⟨G, Y, w, hG, _⟩ := dw.ex
  exact for_it w (D := D) (fun _ σ' H' => σ' = σ ∧ Ex H1 H') ⟨rfl, Ex.refl _⟩ (fun _ _ H' _ p => hG H' p.2) (fun i _ _ _ _ hi _ _ => absurd hi (Nat.not_lt_zero i)) fun σ' H' p => by
    rw [p.1]
    exact k H' (e.trans p.2)
theorem q_forE (h : EvI wi σ H []) (k : ∀ H1, Ex H H1 → tz D σ H1) : tSeq (tFor wi g tb) tz D σ H := s_forE (D := { D with nx := tz D }) h k
/-- a comprehension over nothing -/
theorem eds_lcE (h : EvI wi σ H []) : EvDs (tLc wi g tt te vs) σ H [] := eds_it (α := Nat) (enc := fun _ => .none) (es := []) (fun _ => true) (fun _ => .none) h (Nat.zero_le _) fun _ m => nomatch m
theorem ei_nil (h : Ev tl σ H (.ref a)) (ha : H a = some (.lst [])) : EvI (iList K tl) σ H [] := ei_list (ld_of h ha .nil)
theorem ei_enumE (h : Ev tl σ H (.ref a)) (ha : H a = some (.lst [])) : EvI (iEnum K (tCons tl tNil)) σ H [] := ei_enum (ld_of h ha .nil)
/-- range(n) as a walk -/
theorem ei_rng {ta : TA} {m : Nat} (h : EvA ta σ H [.int (m : Int)]) (hm : m ≤ 40000) : EvI (iRng1 ta) σ H ((List.range m).map fun i : Nat => PyData.int (i : Int)) := fun H1 e R q => h H1 e _ fun H2 e2 => ⟨m, rfl, by omega, by omega, q _ H2 e2 ⟨_, _, by
  rw [List.length_map, List.length_range, Int.toNat_natCast]
  exact walk_range, fun _ _ => trivial, fun i x H3 H4 hi e3 y => by
    obtain ⟨rfl, rfl⟩ := y
    rw [List.length_map, List.length_range] at hi
    refine ⟨Ex.refl _, .int (i : Int), by rw [List.getElem?_map, List.getElem?_range hi]; rfl, ?_⟩
    show TD1 _ (.int (0 + (i : Int))) _
    rw [Int.zero_add]
    exact TDs.int _ .nil⟩⟩
end
/-- more of the module's names -/
structure TN2 (mg : Str → Option Value) : Prop where
  enum : mg "enumerate" = none
  zip : mg "zip" = none
  any : mg "any" = none
  set : mg "set" = none
  sum : mg "sum" = none
  abs : mg "abs" = none
section
variable {P : Program} {w : World} {K : PySem.W.Frag} {mg : Str → Option Value} {base : Heap}
abbrev nmPOS : List Str := ["sides", "points", "one", "two", "rulers", "held", "late", "early", "point", "index"]
theorem scPOS : FnScope nmPOS ["sides", "points"] (defScope sPOS) := ⟨rfl, rfl, rfl, by decide +kernel, rfl, by decide +kernel, by decide +kernel⟩
theorem ok_pos {f : Addr} {fd : FuncData} (F : Fun K "_points_on_sides" "_points_on_sides" sPOS f fd) (T : TN mg) (T2 : TN2 mg) : FnOk P w K mg base CX0 1 f fd ["sides", "points"] spPOS := by
  refine F.ok scPOS (fun vs H Q E h => ?_) (fun cdv A' outer s H vs Q E hr h => ?_)
  · obtain ⟨a, v, rfl, _⟩ := h
    rfl
  · obtain ⟨a, v, rfl, ha, q⟩ := h
    refine ⟨_, (pss_cons (ps_setLc (i := 4) (own := [("one", 2), ("two", 3)]) (g := gTup K 2 (gCons (gName 2) (gCons (gName 3) gNil))) (by rfl) scPOS.nd rfl rfl (sw_true rfl rfl rfl (by decide +kernel)) (pi_list (pv 0))
        (blkOk_by (own := [("one", 2), ("two", 3)]) (N := nmPOS) (sc := defScope sPOS) (by decide +kernel))
        (fun _ _ _ _ _ => by exact (pg_tup (by rfl) (pgs_cons (pg_name (i := 2) scPOS.nd rfl (Or.inl rfl)) (pgs_cons (pg_name (i := 3) scPOS.nd rfl (Or.inl rfl)) pgs_nil)))) (fun _ _ _ _ _ => pts_nil)
        (te := tNo) (fun _ _ _ _ _ => by exact pe_never))
      (pss_cons (ps_setLc (i := 5) (own := [("one", 2), ("two", 3)]) (g := gTup K 2 (gCons (gName 2) (gCons (gName 3) gNil))) (by rfl) scPOS.nd rfl rfl (sw_true rfl rfl rfl (by decide +kernel)) (pi_list (pv 0))
        (blkOk_by (own := [("one", 2), ("two", 3)]) (N := nmPOS) (sc := defScope sPOS) (by decide +kernel))
        (fun _ _ _ _ _ => by exact (pg_tup (by rfl) (pgs_cons (pg_name (i := 2) scPOS.nd rfl (Or.inl rfl)) (pgs_cons (pg_name (i := 3) scPOS.nd rfl (Or.inl rfl)) pgs_nil)))) (fun _ _ _ _ _ => pts_nil)
        (te := tNo) (fun _ _ _ _ _ => by exact pe_never))
      (pss_cons (ps_for PassesOwn.never rfl (pi_range1 (by rfl) T.range (pa_cons (pe_callB call_len_seq (by rfl) T.len PySem.boot_len (pa_cons (pv 0) pa_nil)) pa_nil)) (pg_name (i := 6) scPOS.nd rfl (Or.inl rfl))
        pss_never)
      (pss_cons (ps_for PassesOwn.never rfl (pi_enum (by rfl) T2.enum (pa_cons (pv 0) pa_nil)) (pg_tup (by rfl) (pgs_cons (pg_name (i := 9) scPOS.nd rfl (Or.inl rfl)) (pgs_cons (pg_tup (by rfl) (pgs_cons (pg_name (i := 2) scPOS.nd rfl (Or.inl rfl)) (pgs_cons (pg_name (i := 3) scPOS.nd rfl (Or.inl rfl)) pgs_nil))) pgs_nil)))
        pss_never)
      (pss_one (ps_ret (pv 5))))))), ?_⟩
    refine q_asgDs (eds_lcE (ei_nil (ev_var (i := 0) rfl) ha)) fun l1 xs1 H1 e1 n1 hl1 y1 => ?_
    refine q_asgDs (eds_lcE (ei_nil (ev_var (i := 0) rfl) (e1 _ _ ha))) fun l2 xs2 H2 e2 n2 hl2 y2 => ?_
    have e12 := e1.trans e2
    refine q_forE (ei_rng (m := 0) (ea_cons (ev_len (ev_var (i := 0) rfl) (SqL.of (e12 _ _ ha))) ea_nil) (by decide)) fun H3 e3 => ?_
    have e13 := e12.trans e3
    refine q_forE (ei_enumE (ev_var (i := 0) rfl) (e13 _ _ ha)) fun H4 e4 => ?_
    rw [y2.inv0] at hl2
    exact s_ret (ev_var (i := 5) rfl) fun H5 e5 => q l2 H5 (fresh_back e1 n2) ((e13.trans e4).trans e5) (((e3.trans e4).trans e5) _ _ hl2)
abbrev nmCut : List Str := ["sides", "points", "held", "found", "on_side", "corners", "steps", "index_of", "chains", "indices", "point", "index", "corner", "_"]
theorem scCut : FnScope nmCut ["sides", "points"] (defScope sCut) := ⟨rfl, rfl, rfl, by decide +kernel, rfl, by decide +kernel, by decide +kernel⟩
theorem keys_td {H : Hp} {v : V} : ∀ {S : List (Int × Int)} {bs : List Addr}, IsKeys H (S.map fun p => (kP p, v)) bs → TDs H (bs.map V.ref) (S.map c3)
  | [], [], _ => .nil
  | p :: S, b :: bs, h => by
    cases h with
    | cons h1 h2 => exact TDs.cons (c3_of h1) (keys_td h2)
  | [], _ :: _, h => nomatch h
  | _ :: _, [], h => nomatch h
def nsP (p : Int × Int) : List Int := [p.1, p.2, 1]
theorem nsP_inj {p q : Int × Int} (h : nsP p = nsP q) : p = q := by
  unfold nsP at h
  injection h with h1 h2
  injection h2 with h2 _
  exact Prod.ext h1 h2
def bkP (ns : List Int) : Int × Int := (ns.getD 0 0, ns.getD 1 0)
theorem perm_pts {S0 : List (Int × Int)} {mss : List (List Int)} (h : mss.Perm (S0.map nsP)) : ∃ S : List (Int × Int), S.Perm S0 ∧ mss = S.map nsP := by
  refine ⟨mss.map bkP, ?_, ?_⟩
  · have z := h.map bkP
    rw [List.map_map] at z
    have e : S0.map (bkP ∘ nsP) = S0 := (List.map_congr_left fun p _ => rfl).trans (List.map_id S0)
    rwa [e] at z
  · rw [List.map_map]
    refine ((List.map_congr_left fun ns hn => ?_).trans (List.map_id mss)).symm
    obtain ⟨p, _, rfl⟩ := List.mem_map.mp (h.mem_iff.mp hn)
    rfl
theorem ok_cut {f : Addr} {fd : FuncData} (F : Fun K "cut" "cut" sCut f fd) (T : TN mg) (T2 : TN2 mg) (CP : Cl P w K mg base 1 "_points_on_sides" spPOS) (CS : Cl P w K mg base 2 "steps_of" spStO) : FnOk P w K mg base CX0 3 f fd ["sides", "points"] spCut := by
  refine F.ok scCut (fun vs H Q E h => ?_) (fun cdv A' outer s H vs Q E hr h => ?_)
  · obtain ⟨a, b, xs, ps, rfl, _⟩ := h
    rfl
  · obtain ⟨a, b, xs, ps, rfl, ha, hb, tp, pb, q⟩ := h
    refine ⟨_, (pss_cons (ps_set (i := 2) scCut.nd rfl (Or.inl rfl) (pe_cl CP hr (by decide) (by rfl) (pa_cons (pv 0) (pa_cons (pv 1) pa_nil))))
      (pss_cons (DCT.ps_setDcS (S := DCT.stoT) (o0 := .dT []) (i := 3) (own := [("point", 10)]) (g := gName 10) (by rfl) scCut.nd rfl rfl (DCT.swapsD rfl rfl rfl (by decide +kernel)) (pi_list (pv 1)) (blkOk_by (own := [("point", 10)]) (N := nmCut) (sc := defScope sCut) (by decide +kernel)) (fun _ _ _ _ _ => by exact (pg_name (i := 10) scCut.nd rfl (Or.inl rfl))) (fun _ _ _ _ _ => pts_nil) (tk := tVar 10) (fun _ _ _ _ _ => by exact (pv 10)) (tv := tC (.bl true)) (fun _ _ _ _ _ => by exact (pe_bl)) (DCT.runs_in (Nat.lt_of_le_of_lt (Nat.le_add_right _ 63) hr.units)) (fun h H hb => dt_empty h hb))
      (pss_cons (ps_for PassesOwn.never rfl (pi_list (pv 2)) (pg_name (i := 4) scCut.nd rfl (Or.inl rfl))
        pss_never)
      (pss_cons (ps_set (i := 5) scCut.nd rfl (Or.inl rfl) (pe_callB cr_sortLex (by rfl) T.sorted (by decide +kernel) (pa_cons (pe_callTy (call_list_dT rfl) (by rfl) T.list (by decide +kernel) (pa_cons (pv 3) pa_nil)) pa_nil)))
      (pss_cons (ps_set (i := 6) scCut.nd rfl (Or.inr rfl) (pe_cl CS hr (by decide) (by rfl) (pa_cons (pv 5) pa_nil)))
      (pss_cons (ps_set (i := 7) scCut.nd rfl (Or.inr rfl) (DCT.pe_dcS (S := DCT.stoT) (o0 := .dT []) (own := [("index", 11), ("corner", 12)]) (g := gTup K 2 (gCons (gName 11) (gCons (gName 12) gNil))) (by rfl) scCut.nd (pi_enum (by rfl) T2.enum (pa_cons (pv 5) pa_nil)) (blkOk_by (own := [("index", 11), ("corner", 12)]) (N := nmCut) (sc := defScope sCut) (by decide +kernel)) (fun _ _ _ _ _ => by exact (pg_tup (by rfl) (pgs_cons (pg_name (i := 11) scCut.nd rfl (Or.inl rfl)) (pgs_cons (pg_name (i := 12) scCut.nd rfl (Or.inl rfl)) pgs_nil)))) (fun _ _ _ _ _ => pts_nil) (tk := tVar 12) (fun _ _ _ _ _ => by exact (pv 12)) (tv := tVar 11) (fun _ _ _ _ _ => by exact (pv 11)) (DCT.runs_in (Nat.lt_of_le_of_lt (Nat.le_add_right _ 63) hr.units)) (fun h H hb => dt_empty h hb)))
      (pss_cons (ps_set (i := 8) scCut.nd rfl (Or.inl rfl) (pe_lst pa_nil))
      (pss_cons (ps_for PassesOwn.never rfl (pi_list (pv 2)) (pg_name (i := 4) scCut.nd rfl (Or.inl rfl))
        pss_never)
      (pss_one (ps_ret (pe_tup (pa_cons (pv 5) (pa_cons (pv 6) (pa_cons (pv 8) pa_nil)))))))))))))), ?_⟩
    obtain ⟨S0, nd0, mem0, eq0⟩ := puts_pts (.bl true) ps
    refine q_asgDs (ds := []) (fun H1 e1 Q q' => ⟨_, rfl, _, rfl, a, .ref b, rfl, e1 _ _ ha, fun l H' hn e hl => q' l [] H' hn e hl .nil⟩) fun l1 xs1 H1 e1 n1 hl1 y1 => ?_
    cases y1.inv0
    refine q_asgDT (kvs := S0.map fun p => (kP p, .bl true)) (eq0 ▸ edt_dc (ei_list (ld_of (ev_var (i := 1) rfl) (e1 _ _ hb) (tp.mono e1))) (Nat.le_trans pb.len (by decide)) fun p hp => turnk_nm (fun _ => rfl) (fun v H2 e2 x => ek_c3 (ed_var rfl x)) fun v H2 e2 x => ev_c) fun D H2 e2 nD hD => ?_
    have e12 := e1.trans e2
    refine q_forE (ei_nil (ev_var (i := 2) rfl) (e2 _ _ hl1)) fun H3 e3 => ?_
    have e13 := e12.trans e3
    refine q_asgQ (go_sortI (nss := S0.map nsP) (dd := 3) (H := H3) (fun H4 e4 Q q' => ⟨_, rfl, D, _, rfl, .inl ((e3.trans e4) _ _ hD), fun p bs hp hk => q' p _ _ (Ex.new hp) upd_same (by
      rw [List.map_map]
      exact (keys_td hk).mono (Ex.new hp))⟩) (by decide) (fun ns hn => by
      obtain ⟨p, _, rfl⟩ := List.mem_map.mp hn
      rfl) (Ex.refl H3) fun r ys mss H4 nr e4 hr4 ty pm _ => ?_)
    obtain ⟨S, pS, rfl⟩ := perm_pts pm
    have sp : Spots ps S := ⟨pS.nodup_iff.mpr nd0, fun p => (pS.mem_iff).trans (mem0 p)⟩
    have ty3 : TDs H4 ys (S.map c3) := by
      rw [List.map_map] at ty
      exact ty
    have psb := sp.psb pb
    refine q_asgQ ⟨_, rfl, r, ys, S, rfl, hr4, ty3, psb, fun l zs B H5 nl e5 hl5 tz => ?_⟩
    have e15 := (e13.trans e4).trans e5
    refine q_asgDT (kvs := puts (fun n : Nat × (Int × Int) => kP n.2) (fun n => .int (n.1 : Int)) ((List.range S.length).zip S)) (edt_dc (enc := fun n : Nat × (Int × Int) => .tuple [.int (n.1 : Int), c3 n.2]) (by
      have z := ei_enum (K := K) (ld_of (ev_var (i := 5) (σ := [some (.ref a), some (.ref b), some (.ref l1), some (.ref D), none, some (.ref r), some (.ref l), none, none, none, none, none, none, none]) rfl) (e5 _ _ hr4) (ty3.mono e5))
      have e : numD (S.map c3) = ((List.range S.length).zip S).map fun n : Nat × (Int × Int) => PyData.tuple [.int (n.1 : Int), c3 n.2] := by
        refine List.ext_getElem (by rw [numD_len]; simp) fun i h1 h2 => ?_
        rw [numD_len, List.length_map] at h1
        have z1 := numD_at (ds := S.map c3) (i := i) (d := c3 S[i]) (by rw [List.getElem?_map, List.getElem?_eq_getElem h1]; rfl)
        rw [List.getElem?_eq_getElem (by rw [numD_len, List.length_map]; exact h1)] at z1
        rw [Option.some.inj z1]
        simp
      rw [e] at z
      exact z) (by simp; have := psb.len; omega) fun n hn => turnk_t2 (d1 := .int (n.1 : Int)) (d2 := c3 n.2) rfl (fun _ _ => rfl) (fun u v H6 e6 x1 x2 => ek_c3 (ed_var rfl x2)) fun u v H6 e6 x1 x2 => by
        rw [x1.int]
        exact ev_var rfl) fun D2 H6 e6 nD2 hD2 => ?_
    refine q_asgDs (eds_lst da_nil (by decide)) fun l8 xs8 H7 e7 n8 hl8 y8 => ?_
    cases y8.inv0
    have e67 := e6.trans e7
    refine q_forE (ei_nil (ev_var (i := 2) rfl) (((((e2.trans e3).trans e4).trans e5).trans e67) _ _ hl1)) fun H8 e8 => ?_
    have e58 := e67.trans e8
    have e18 := e15.trans e58
    have e48 := e5.trans e58
    refine s_retQ ⟨_, rfl, _, rfl, _, rfl, (show 3 ≤ sizeLine by decide), fun t ht => ?_⟩
    have et := Ex.new (o := .tup [.ref r, .ref l, .ref l8]) ht
    exact q t S B r l l8 _ (e18.trans et) sp ⟨upd_same, ⟨ys, (e48.trans et) _ _ hr4, ty3.mono (e48.trans et)⟩, ⟨zs, (e58.trans et) _ _ hl5, tz.mono (e58.trans et)⟩, (e8.trans et) _ _ hl8⟩
end
end Q
set_option Elab.async false
set_option linter.all false
set_option maxRecDepth 100000
set_option maxHeartbeats 4000000
/-! sorted of a list of alike data -/
namespace Q
open PySem L2 PySem.Spec PyProof.Rows PySem.Calls
open Evl
open PySem.W (EachIs AllAlike Sortable dataLe)
theorem un65 {k : Nat} {A : Around} (r : Room k A) : A.units + 65 < cLine := by
  have := r.un
  omega
/-- sorted(xs), xs a list of alike data -/
def rSortD (K : PySem.W.Frag) : List V → Hp → VK → Prop := fun vs H Q => ∃ (a : Addr) (xs : List V) (ds : List PyData), vs = [V.ref a] ∧ SqL K H a xs ∧ TDs H xs ds ∧ AllAlike ds ∧ Sortable ds ∧ (∀ d ∈ ds, d.depth ≤ 60) ∧
  ∀ ys p, TDs H ys (ds.mergeSort (dataLe false id)) → H p = none → Q (.ref p) (upd H p (.lst ys))
section
variable {X : Cx}
theorem each_of {H : Hp} : ∀ {ds : List PyData} {xs : List V} {us : List Value}, Vals xs us → TDs H xs ds → EachIs (fun v d => ∃ x, RelV x v ∧ TD1 H x d) us ds
  | [], xs, us, r, t => by
    rw [t.inv0] at r
    cases r
    exact .nil
  | d :: ds, xs, us, r, t => by
    obtain ⟨v, ys, rfl, hv, ht⟩ := t.inv
    cases r with
    | cons r1 r => exact .cons ⟨v, r1, hv⟩ (each_of r ht)
theorem of_each {H : Hp} : ∀ {ds : List PyData} {us : List Value}, EachIs (fun v d => ∃ x, RelV x v ∧ TD1 H x d) us ds → ∃ xs, Vals xs us ∧ TDs H xs ds
  | _, _, .nil => ⟨[], .nil, .nil⟩
  | _, _, .cons ⟨v, r1, hv⟩ t => by
    obtain ⟨xs, r, ht⟩ := of_each t
    exact ⟨v :: xs, .cons r1 r, TDs.cons hv ht⟩
theorem each_reads {pins : List (Addr × Obj)} {σ : L2.St} {H : Hp} {s : Shared} (I : Inv X pins σ H s) : ∀ {ds : List PyData} {us : List Value}, EachIs (fun v d => ∃ x, RelV x v ∧ TD1 H x d) us ds → EachIs (fun v d => ∃ as, Reads s.heap v (id d) as) us ds
  | _, _, .nil => .nil
  | _, _, .cons ⟨v, r1, hv⟩ t => .cons (Dp.reads I _ v _ hv.dp r1) (each_reads I t)
theorem cr_sortD (hu : X.A.units + 65 < cLine) : CallR X (.builtin "sorted") (rSortD X.K) := by
  intro pins s σ H vs us Q I r h
  obtain ⟨a, xs, ds, rfl, hs, ht, ha, hk, hd, q⟩ := h
  obtain ⟨its, rv, hl, hz⟩ := I.list hs
  rw [Vals.ref1 r]
  have e := each_of rv ht
  have dl := ht.len
  refine PySem.W.sorted_data (vs := its) (bs := ds) (enc := id) hl.isList e (each_reads I e) (by rw [List.map_id]; exact ha) (by rw [List.map_id]; exact hk) (by omega) (fun b hb => ?_) fun out ho eo => ?_
  · have := hd b hb
    show X.A.units + 2 + b.depth < cLine
    omega
  · obtain ⟨ys, ry, ty⟩ := of_each eo
    obtain ⟨ep, he'⟩ := PyProof.Rows.sortedAll_at s.heap its out.toArray
    have yl := ry.length
    refine ⟨.ref _, upd H (s.heap.objs.size + 1) (.lst ys), I.laid (t' := s.toks) (fun _ _ => PyProof.Rows.sortedAll_old) (Nat.le_succ _) ⟨by omega, out, ep, ry, he'⟩, rfl, q _ _ ty (I.hok.fresh (Nat.le_succ _))⟩
end
section
variable {K : PySem.W.Frag} {σ : L2.St} {H : Hp} {te : TE} {ds : List PyData}
theorem eds_sortD (h : EvLd te σ H ds) (ha : AllAlike ds) (hk : Sortable ds) (hd : ∀ d ∈ ds, d.depth ≤ 60) : EvDs (tCB (rSortD K) (tCons te tNil)) σ H (ds.mergeSort (dataLe false id)) := fun H1 e Q q =>
  h H1 e _ fun p xs H2 e2 hp t => ⟨p, xs, ds, rfl, SqL.of hp, t, ha, hk, hd, fun ys l ty hl => q l ys _ (fresh_back e2 hl) (e2.trans (Ex.new hl)) upd_same (ty.mono (Ex.new hl))⟩
end
end Q
set_option Elab.async false
set_option linter.all false
set_option maxRecDepth 100000
set_option maxHeartbeats 4000000
/-! nothing linked, ranked, walked; nothing below a point -/
namespace Q
open PySem L2 PySem.Spec PyProof.Rows PySem.Calls PySem.OwnX
open Evl
abbrev sLk : Stmt := top 51
abbrev sSR : Stmt := top 25
abbrev sWk : Stmt := top 52
abbrev sHB : Stmt := top 47
/-- the class of webs -/
structure WC (K : PySem.W.Frag) (mg : Str → Option Value) (C : Addr) : Prop where
  cl : Cls K C
  g : mg "Web" = some (.ref C)
  spots : NoAttr K C "spots"
  steps : NoAttr K C "steps"
  chains : NoAttr K C "chains"
  spans : NoAttr K C "spans"
  rulers : NoAttr K C "rulers"
  ties : NoAttr K C "ties"
  covering : NoAttr K C "covering"
  spot_at : NoAttr K C "spot_at"
  tie_at : NoAttr K C "tie_at"
  half_turn : NoAttr K C "half_turn"
  turns : NoAttr K C "turns"
  leaving : NoAttr K C "leaving"
  after : NoAttr K C "after"
  walks : NoAttr K C "walks"
  walk_at : NoAttr K C "walk_at"
  first_spots : NoAttr K C "first_spots"
  lone_rooms : NoAttr K C "lone_rooms"
  room_at : NoAttr K C "room_at"
  room_count : NoAttr K C "room_count"
  rooms_left : NoAttr K C "rooms_left"
  borders : NoAttr K C "borders"
/-- the thing at a is of the class C and has v as its f -/
def Has (H : Hp) (C a : Addr) (f : Str) (v : V) : Prop := ∃ dx fs, H a = some (.ins C dx fs) ∧ fs.lookup f = some v
theorem Has.mono {H H' : Hp} {C a : Addr} {f : Str} {v : V} (h : Has H C a f v) (e : Ex H H') : Has H' C a f v := by
  obtain ⟨dx, fs, h1, h2⟩ := h
  exact ⟨dx, fs, e _ _ h1, h2⟩
/-- .. an empty list -/
def HasE (H : Hp) (C a : Addr) (f : Str) : Prop := ∃ l, Has H C a f (.ref l) ∧ H l = some (.lst [])
theorem HasE.mono {H H' : Hp} {C a : Addr} {f : Str} (h : HasE H C a f) (e : Ex H H') : HasE H' C a f := by
  obtain ⟨l, h1, h2⟩ := h
  exact ⟨l, h1.mono e, e _ _ h2⟩
def spLk : Sp := fun vs H Q _ => ∃ a : Addr, vs = [.ref a] ∧ H a = some (.lst []) ∧ ∀ t r l H', Ex H H' → H' t = some (.tup [.ref r, .ref l]) → H' r = some (.lst []) → H' l = some (.lst []) → Q (.ref t) H'
def spSR : Sp := fun vs H Q _ => ∃ a : Addr, vs = [.ref a] ∧ H a = some (.lst []) ∧ ∀ l H', H l = none → Ex H H' → H' l = some (.lst []) → Q (.ref l) H'
def spHB (C : Addr) : Sp := fun vs H Q _ => ∃ (a : Addr) (v : V), vs = [.ref a, v] ∧ HasE H C a "rulers" ∧ ∀ H', Ex H H' → Q .non H'
section
variable {K : PySem.W.Frag} {σ : L2.St} {H : Hp} {te tl ta tb : TE} {tt : TT} {g : TG} {D : Ends} {tz : TS} {C a l : Addr} {f : Str} {v : V}
theorem ev_has (h : Ev te σ H (.ref a)) (hv : Has H C a f v) (cl : Cls K C) (na : NoAttr K C f) : Ev (tFld K te f) σ H v := fun H1 e Q q => by
  obtain ⟨dx, fs, h1, h2⟩ := hv
  exact h H1 e _ fun H2 e2 => ⟨a, C, dx, fs, v, rfl, (e.trans e2) _ _ h1, cl, na, h2, q H2 e2⟩
theorem flat_one {u : V} : ∀ n : Nat, (List.replicate n [u]).flatten = List.replicate n u
  | 0 => rfl
  | n + 1 => by
    rw [List.replicate_succ, List.flatten_cons, List.replicate_succ, flat_one n]
    rfl
theorem td_rep {H : Hp} {u : V} {d : PyData} (h : TD1 H u d) : ∀ n : Nat, TDs H (List.replicate n u) (List.replicate n d)
  | 0 => .nil
  | n + 1 => TDs.cons h (td_rep h n)
/-- [x] * n -/
theorem eds_rep {d : PyData} {n : Nat} (h : EvDs ta σ H [d]) (hb : ∀ H1, Ex H H1 → Ev tb σ H1 (.int (n : Int))) (hn : n ≤ 100000) : EvDs (tOp rRep ta tb) σ H (List.replicate n d) := fun H1 e Q q =>
  h H1 e _ fun p xs H2 np e2 hp x => hb H2 (e.trans e2) H2 (Ex.refl _) _ fun H3 e3 => by
    obtain ⟨u, ys, rfl, x1, y⟩ := x.inv
    cases y.inv0
    refine ⟨p, n, [u], rfl, rfl, e3 _ _ hp, by omega, by omega, ?_, fun r hr => ?_⟩
    · rw [Int.toNat_natCast]
      exact sz_of (by simpa using hn)
    · rw [Int.toNat_natCast, flat_one]
      have e4 := e2.trans e3
      exact q r _ _ (fresh_back e4 hr) (e4.trans (Ex.new hr)) upd_same (td_rep (x1.mono (e3.trans (Ex.new hr))) n)
end
section
variable {P : Program} {w : World} {K : PySem.W.Frag} {mg : Str → Option Value} {base : Heap} {CW : Addr}
abbrev nmLk : List Str := ["chains", "covers", "side", "chain", "start", "end", "ties", "tie"]
theorem scLk : FnScope nmLk ["chains"] (defScope sLk) := ⟨rfl, rfl, rfl, by decide +kernel, rfl, by decide +kernel, by decide +kernel⟩
theorem ok_lk {f : Addr} {fd : FuncData} (F : Fun K "_linked" "_linked" sLk f fd) (T : TN mg) (T2 : TN2 mg) : FnOk P w K mg base CX0 1 f fd ["chains"] spLk := by
  refine F.ok scLk (fun vs H Q E h => ?_) (fun cdv A' outer s H vs Q E hr h => ?_)
  · obtain ⟨a, rfl, _⟩ := h
    rfl
  · obtain ⟨a, rfl, ha, q⟩ := h
    refine ⟨_, (pss_cons (ps_set (i := 1) scLk.nd rfl (Or.inr rfl) pe_dnewT)
      (pss_cons (ps_for PassesOwn.never rfl (pi_enum (by rfl) T2.enum (pa_cons (pv 0) pa_nil)) (pg_tup (by rfl) (pgs_cons (pg_name (i := 2) scLk.nd rfl (Or.inl rfl)) (pgs_cons (pg_name (i := 3) scLk.nd rfl (Or.inl rfl)) pgs_nil)))
        pss_never)
      (pss_cons (ps_set (i := 6) scLk.nd rfl (Or.inl rfl) (pe_callB cr_sortLex (by rfl) T.sorted (by decide +kernel) (pa_cons (pe_callTy (call_list_dT rfl) (by rfl) T.list (by decide +kernel) (pa_cons (pv 1) pa_nil)) pa_nil)))
      (pss_one (ps_ret (pe_tup (pa_cons (pv 6) (pa_cons (pe_lc (own := [("tie", 7)]) (g := gName 7) (by rfl) scLk.nd (pi_list (pv 6))
        (blkOk_by (own := [("tie", 7)]) (N := nmLk) (sc := defScope sLk) (by decide +kernel))
        (fun _ _ _ _ _ => by exact (pg_name (i := 7) scLk.nd rfl (Or.inl rfl))) (fun _ _ _ _ _ => pts_nil)
        (te := tNo) (fun _ _ _ _ _ => by exact pe_never)) pa_nil)))))))), ?_⟩
    refine q_asgQ fun D nD => ?_
    have e1 := Ex.new (o := .dT []) nD
    refine q_forE (ei_enumE (ev_var (i := 0) rfl) (e1 _ _ ha)) fun H2 e2 => ?_
    refine q_asgQ (go_sortI (nss := []) (dd := 1) (H := H2) (fun H3 e3 Q q' => ⟨_, rfl, D, [], rfl, .inl ((e2.trans e3) _ _ upd_same), fun p bs hp hk => q' p _ _ (Ex.new hp) upd_same (by
      cases hk
      exact .nil)⟩) (by decide) (fun ns hn => nomatch hn) (Ex.refl H2) fun r ys mss H3 nr e3 hr3 ty pm _ => ?_)
    have em := List.Perm.eq_nil pm
    subst em
    cases ty.inv0
    refine s_retQ ⟨_, rfl, ?_⟩
    refine (eds_lcE (σ := [some (.ref a), some (.ref D), none, none, none, none, some (.ref r), none]) (te := tNo) (g := gName 7) (tt := tYes) (vs := [7]) (ei_nil (K := K) (ev_var (i := 6) rfl) hr3)) H3 (Ex.refl _) _ fun l xs H4 nl e4 hl y => ?_
    cases y.inv0
    refine ⟨(show 2 ≤ sizeLine by decide), fun t ht => ?_⟩
    have et := e4.trans (Ex.new (o := .tup [.ref r, .ref l]) ht)
    exact q t r l _ (((e1.trans e2).trans e3).trans et) upd_same (et _ _ hr3) (Ex.new ht _ _ hl)
abbrev nmHB : List Str := ["web", "point", "best", "side", "ruler", "left", "right", "chain", "index"]
theorem scHB : FnScope nmHB ["web", "point"] (defScope sHB) := ⟨rfl, rfl, rfl, by decide +kernel, rfl, by decide +kernel, by decide +kernel⟩
theorem ok_hb {f : Addr} {fd : FuncData} (F : Fun K "half_below" "half_below" sHB f fd) (T : TN mg) (T2 : TN2 mg) (W : WC K mg CW) : FnOk P w K mg base CX0 1 f fd ["web", "point"] (spHB CW) := by
  refine F.ok scHB (fun vs H Q E h => ?_) (fun cdv A' outer s H vs Q E hr h => ?_)
  · obtain ⟨a, v, rfl, _⟩ := h
    rfl
  · obtain ⟨a, v, rfl, ⟨l, h1, h2⟩, q⟩ := h
    refine ⟨_, (pss_cons (ps_set (i := 2) scHB.nd rfl (Or.inl rfl) pe_non)
      (pss_cons (ps_for PassesOwn.never rfl (pi_enum (by rfl) T2.enum (pa_cons (pe_fld (pv 0) rfl) pa_nil)) (pg_tup (by rfl) (pgs_cons (pg_name (i := 3) scHB.nd rfl (Or.inl rfl)) (pgs_cons (pg_name (i := 4) scHB.nd rfl (Or.inl rfl)) pgs_nil)))
        pss_never)
      (pss_cons (ps_if (pt_cmpR op_isN1 (pv 2) pe_non (nomark _)) (pss_one (ps_ret pe_non)) pss_nil) pss_never))), ?_⟩
    refine q_asg ev_c fun H1 e1 => ?_
    refine q_forE (ei_enum (ds := []) (ld_of (ev_has (ev_var (i := 0) rfl) (h1.mono e1) W.cl W.rulers) (e1 _ _ h2) .nil)) fun H2 e2 => ?_
    have e12 := e1.trans e2
    refine q_yes (et_is (et_test (b := true) (ev_op (ev_var (i := 2) rfl) ev_c fun H3 e3 Q q' => ⟨rfl, q' H3 (Ex.refl _)⟩)) rfl) fun H3 e3 => ?_
    exact s_ret ev_c fun H4 e4 => q H4 ((e12.trans e3).trans e4)
abbrev nmWk : List Str := ["after", "walk_at", "walks", "first", "walk", "half"]
theorem scWk : FnScope nmWk ["after"] (defScope sWk) := ⟨rfl, rfl, rfl, by decide +kernel, rfl, by decide +kernel, by decide +kernel⟩
/-- no walks -/
theorem ok_wk {f : Addr} {fd : FuncData} (F : Fun K "_walked" "_walked" sWk f fd) (T : TN mg) : FnOk P w K mg base CX0 1 f fd ["after"] spLk := by
  refine F.ok scWk (fun vs H Q E h => ?_) (fun cdv A' outer s H vs Q E hr h => ?_)
  · obtain ⟨a, rfl, _⟩ := h
    rfl
  · obtain ⟨a, rfl, ha, q⟩ := h
    refine ⟨_, (pss_cons (ps_set (i := 1) scWk.nd rfl (Or.inl rfl) (pe_op op_rep (pe_lst (pa_cons (pe_un un_neg pe_int) pa_nil)) (pe_callB call_len_seq (by rfl) T.len PySem.boot_len (pa_cons (pv 0) pa_nil))))
      (pss_cons (ps_set (i := 2) scWk.nd rfl (Or.inl rfl) (pe_lst pa_nil))
      (pss_cons (ps_for PassesOwn.never rfl (pi_range1 (by rfl) T.range (pa_cons (pe_callB call_len_seq (by rfl) T.len PySem.boot_len (pa_cons (pv 0) pa_nil)) pa_nil)) (pg_name (i := 3) scWk.nd rfl (Or.inl rfl))
        pss_never)
      (pss_one (ps_ret (pe_tup (pa_cons (pv 2) (pa_cons (pv 1) pa_nil)))))))), ?_⟩
    refine q_asgDs (eds_rep (d := .int (-1)) (n := 0) (eds_lst (da_cons (ed_int fun H1 e Q q => ⟨1, rfl, q H1 (Ex.refl _)⟩) da_nil) (by decide)) (fun H1 e1 => ev_len (ev_var (i := 0) rfl) (SqL.of (e1 _ _ ha))) (by decide)) fun l xs H1 e1 nl hl y => ?_
    cases y.inv0
    refine q_asgDs (eds_lst da_nil (by decide)) fun r ys H2 e2 nr hr2 y2 => ?_
    cases y2.inv0
    have e12 := e1.trans e2
    refine q_forE (ei_rng (m := 0) (ea_cons (ev_len (ev_var (i := 0) rfl) (SqL.of (e12 _ _ ha))) ea_nil) (by decide)) fun H3 e3 => ?_
    refine s_retQ ⟨_, rfl, _, rfl, (show 2 ≤ sizeLine by decide), fun t ht => ?_⟩
    have et := Ex.new (o := .tup [.ref r, .ref l]) ht
    exact q t r l _ ((e12.trans e3).trans et) upd_same ((e3.trans et) _ _ hr2) (((e2.trans e3).trans et) _ _ hl)
abbrev nmSR : List Str := ["ways", "rising", "keys", "ranks", "k", "rank", "key", "dx", "dy"]
theorem scSR : FnScope nmSR ["ways"] (defScope sSR) := ⟨rfl, rfl, rfl, by decide +kernel, rfl, by decide +kernel, by decide +kernel⟩
theorem ok_sr {f : Addr} {fd : FuncData} (F : Fun K "slope_ranks" "slope_ranks" sSR f fd) (T : TN mg) (T2 : TN2 mg) (CF : Cl P w K mg base 2 "fraction_steps" (spFS K)) : FnOk P w K mg base CX0 3 f fd ["ways"] spSR := by
  refine F.ok scSR (fun vs H Q E h => ?_) (fun cdv A' outer s H vs Q E hr h => ?_)
  · obtain ⟨a, rfl, _⟩ := h
    rfl
  · obtain ⟨a, rfl, ha, q⟩ := h
    refine ⟨_, (pss_cons (ps_set (i := 1) scSR.nd rfl (Or.inr rfl) (pe_cl CF hr (by decide) (by rfl) (pa_cons (pe_lc (own := [("dx", 7), ("dy", 8)]) (g := gTup K 2 (gCons (gName 7) (gCons (gName 8) gNil))) (by rfl) scSR.nd (pi_list (pv 0))
        (blkOk_by (own := [("dx", 7), ("dy", 8)]) (N := nmSR) (sc := defScope sSR) (by decide +kernel))
        (fun _ _ _ _ _ => by exact (pg_tup (by rfl) (pgs_cons (pg_name (i := 7) scSR.nd rfl (Or.inl rfl)) (pgs_cons (pg_name (i := 8) scSR.nd rfl (Or.inl rfl)) pgs_nil)))) (fun _ _ _ _ _ => pts_nil)
        (te := tNo) (fun _ _ _ _ _ => by exact pe_never)) pa_nil)))
      (pss_cons (ps_setLc (i := 2) (own := [("k", 4)]) (g := gName 4) (by rfl) scSR.nd rfl rfl (sw_true rfl rfl rfl (by decide +kernel)) (pi_range1 (by rfl) T.range (pa_cons (pe_callB call_len_seq (by rfl) T.len PySem.boot_len (pa_cons (pv 0) pa_nil)) pa_nil))
        (blkOk_by (own := [("k", 4)]) (N := nmSR) (sc := defScope sSR) (by decide +kernel))
        (fun _ _ _ _ _ => by exact (pg_name (i := 4) scSR.nd rfl (Or.inl rfl))) (fun _ _ _ _ _ => pts_nil)
        (te := tNo) (fun _ _ _ _ _ => by exact pe_never))
      (pss_cons (ps_set (i := 3) scSR.nd rfl (Or.inr rfl) (DCT.pe_dcS (S := DCT.stoT) (o0 := .dT []) (own := [("rank", 5), ("key", 6)]) (g := gTup K 2 (gCons (gName 5) (gCons (gName 6) gNil))) (by rfl) scSR.nd (pi_enum (by rfl) T2.enum (pa_cons (pe_callB (cr_sortedT rfl) (by rfl) T.sorted (by decide +kernel) (pa_cons (pe_callTy (cr_setOfT rfl hr.units) (by rfl) T2.set (by decide +kernel) (pa_cons (pv 2) pa_nil)) pa_nil)) pa_nil)) (blkOk_by (own := [("rank", 5), ("key", 6)]) (N := nmSR) (sc := defScope sSR) (by decide +kernel)) (fun _ _ _ _ _ => by exact (pg_tup (by rfl) (pgs_cons (pg_name (i := 5) scSR.nd rfl (Or.inl rfl)) (pgs_cons (pg_name (i := 6) scSR.nd rfl (Or.inl rfl)) pgs_nil)))) (fun _ _ _ _ _ => pts_nil) (tk := tVar 6) (fun _ _ _ _ _ => by exact (pv 6)) (tv := tVar 5) (fun _ _ _ _ _ => by exact (pv 5)) (DCT.runs_in (Nat.lt_of_le_of_lt (Nat.le_add_right _ 63) hr.units)) (fun h H hb => dt_empty h hb)))
      (pss_one (ps_ret (pe_lc (own := [("key", 6)]) (g := gName 6) (by rfl) scSR.nd (pi_list (pv 2))
        (blkOk_by (own := [("key", 6)]) (N := nmSR) (sc := defScope sSR) (by decide +kernel))
        (fun _ _ _ _ _ => by exact (pg_name (i := 6) scSR.nd rfl (Or.inl rfl))) (fun _ _ _ _ _ => pts_nil)
        (te := tNo) (fun _ _ _ _ _ => by exact pe_never))))))), ?_⟩
    refine q_asgDs (ds := []) (fun H1 e1 Q q' => ?_) fun l1 xs1 H1 e1 n1 hl1 y1 => ?_
    · refine go_call1 ((eds_lcE (σ := [some (.ref a), none, none, none, none, none, none, none, none]) (te := tNo) (tt := tYes) (vs := [7, 8]) (ei_nil (K := K) (ev_var (i := 0) rfl) ha)) H1 e1 _ fun l xs H2 nl e2 hl y => ?_)
      cases y.inv0
      exact ⟨l, [], [], rfl, SqL.of hl, fun k t m h => by simp at h, rfl, (by decide), (fun m hm => nomatch hm), fun l2 H3 n2 e3 hl2 => q' l2 [] H3 (fresh_back e2 n2) (e2.trans e3) hl2 .nil⟩
    refine q_asgDs (eds_lcE (ei_rng (m := 0) (ea_cons (ev_len (ev_var (i := 0) rfl) (SqL.of (e1 _ _ ha))) ea_nil) (by decide))) fun l2 xs2 H2 e2 n2 hl2 y2 => ?_
    cases y2.inv0
    have e12 := e1.trans e2
    refine q_asgDT (kvs := puts (fun _ : Nat => []) (fun _ => .non) []) (edt_dc (α := Nat) (enc := fun _ => .none) (es := []) (ei_enum (ds := []) fun H3 e3 R q' => ⟨_, rfl, l2, [], rfl, SqL.of (e3 _ _ hl2), fun p hp => (nomatch hp), (by decide), fun a' L na hL _ => by
      have eL : L = [] := by
        cases L with
        | nil => rfl
        | cons p _ => exact nomatch hL p List.mem_cons_self
      subst eL
      refine ⟨a', [], 1, 0, rfl, upd_same, fun p hp => (nomatch hp), (by decide), fun p hp => (nomatch hp), fun L' p hp _ _ _ hn => ?_⟩
      have e := List.Perm.eq_nil hp
      subst e
      exact q' p [] _ ((Ex.new na).trans (Ex.new hn)) upd_same .nil⟩) (Nat.zero_le _) fun _ m => nomatch m) fun D H3 e3 nD hD => ?_
    exact s_retDs (eds_lcE (ei_nil (K := K) (ev_var (i := 2) (by rfl)) (e3 _ _ hl2))) fun l xs H4 nl e4 hl y => by
      cases y.inv0
      exact q l H4 (fresh_back (e12.trans e3) nl) ((e12.trans e3).trans e4) hl
end
end Q
set_option Elab.async false
set_option linter.all false
set_option maxRecDepth 100000
set_option maxHeartbeats 4000000
/-! the methods of a web without sides -/
namespace Q
open PySem L2 PySem.Spec PyProof.Rows PySem.Calls PySem.OwnX
open Evl
abbrev sTd : Stmt := inClass (top 50) 5
abbrev sGa : Stmt := inClass (top 50) 6
abbrev sFo : Stmt := inClass (top 50) 7
abbrev sSee : Stmt := inClass (top 50) 9
abbrev sRP : Stmt := inClass (top 50) 11
/-- n empty lists stand in the list at l -/
def Empties (H : Hp) (l : Addr) (n : Nat) : Prop := ∃ es : List Addr, H l = some (.lst (es.map V.ref)) ∧ es.length = n ∧ ∀ e ∈ es, H e = some (.lst [])
theorem Empties.mono {H H' : Hp} {l : Addr} {n : Nat} (h : Empties H l n) (e : Ex H H') : Empties H' l n := by
  obtain ⟨es, h1, h2, h3⟩ := h
  exact ⟨es, e _ _ h1, h2, fun a ha => e _ _ (h3 a ha)⟩
def spTd (C : Addr) : Sp := fun vs H Q _ => ∃ a : Addr, vs = [.ref a] ∧ HasE H C a "spans" ∧ HasE H C a "ties" ∧ HasE H C a "covering" ∧ ∀ l H', H l = none → Ex H H' → H' l = some (.lst []) → Q (.ref l) H'
def spGa (C : Addr) : Sp := fun vs H Q _ => ∃ (a p : Addr) (xs : List V), vs = [.ref a] ∧ Has H C a "spots" (.ref p) ∧ H p = some (.lst xs) ∧ xs.length ≤ 1000 ∧ HasE H C a "turns" ∧ ∀ l H', H l = none → Ex H H' → Empties H' l xs.length → Q (.ref l) H'
def spFo (C : Addr) : Sp := fun vs H Q _ => ∃ (a p : Addr) (n : Nat), vs = [.ref a] ∧ HasE H C a "turns" ∧ Has H C a "leaving" (.ref p) ∧ Empties H p n ∧ n ≤ 1000 ∧ ∀ l H', H l = none → Ex H H' → H' l = some (.lst []) → Q (.ref l) H'
def spSee (C : Addr) : Sp := fun vs H Q _ => ∃ (a s p : Addr) (bs : List V) (k n : Nat), vs = [.ref a, .ref s, .int (k : Int)] ∧ H s = some (.lst bs) ∧ k < bs.length ∧ Has H C a "leaving" (.ref p) ∧ Empties H p n ∧ k < n ∧ p ≠ s ∧ (∀ e, H e = some (.lst []) → e ≠ s) ∧
  ∀ H', Ex (upd H s (.lst (bs.set k (.bl true)))) H' → Q .non H'
def spRP (C : Addr) : Sp := fun vs H Q _ => ∃ (a : Addr) (v : V), vs = [.ref a, v] ∧ HasE H C a "rulers" ∧ ∀ H', Ex H H' → Q (.int 0) H'
section
variable {X : Cx} {k j : Nat} {m : Str} {C : Addr} {sp : Sp} {pos apos : Pos} {e o : Expr} {es : List Expr} {t : TA} {ta : TE}
theorem pe_mt {pl : Sem Bool} (c : Mt X.prog X.w X.K X.mg X.base k C m sp) (hr : Room j X.A) (hk : k ≤ j) (he : PE X o ta) (ha : PA X (e :: es) t)
    (hst : starEach (e :: es) X.env = (false, eval e X.env) :: starEach es X.env := by rfl) (hpl : (backTo pos (starEach es X.env)).any (·.1) = false := by rfl)
    (hm : eval (.Call (.Attribute o m apos) (e :: es) [] pos) X.env = (do
      let z ← eval o X.env
      standAt apos.atName
      let (g, front) ← holding [z] (getMethod z m pl)
      callWith pos g front (backTo pos (starEach (e :: es) X.env)) (backToKw pos (keywordEach [] X.env))) := by rfl) :
    PE X (.Call (.Attribute o m apos) (e :: es) [] pos) (tMeth C m sp [] E0 ta t) := by
  obtain ⟨g, fd, ps, h1, h2, F, b⟩ := c.ex
  exact pe_meth (pl := pl) he h1 h2 F (hr.mono hk) b .nil pass0 ha hst hpl hm
theorem hu_of {A : Around} (r : Room k A) : A.units + 1 < cLine := by
  have := r.units
  omega
end
section
variable {K : PySem.W.Frag} {σ : L2.St} {H : Hp} {te tl ta tb : TE} {tt : TT} {g : TG} {D : Ends} {tz : TS} {C a l : Addr} {f : Str} {v : V} {vs : List Nat} {wi : L2.TI}
theorem ei_has {p : Addr} {xs : List V} {ds : List PyData} (h : Ev te σ H (.ref a)) (hv : Has H C a f (.ref p)) (cl : Cls K C) (na : NoAttr K C f) (hp : H p = some (.lst xs)) (t : TDs H xs ds) : EvI (iList K (tFld K te f)) σ H ds := ei_list (ld_of (ev_has h hv cl na) hp t)
theorem ev_lenF {p : Addr} {xs : List V} (h : Ev te σ H (.ref a)) (hv : Has H C a f (.ref p)) (cl : Cls K C) (na : NoAttr K C f) (hp : H p = some (.lst xs)) : Ev (tCB (rLn K) (tCons (tFld K te f) tNil)) σ H (.int (xs.length : Int)) := fun H1 e Q q => ev_has h hv cl na H1 e _ fun H2 e2 => ⟨p, xs, rfl, .inl (SqL.of ((e.trans e2) _ _ hp)), q H2 e2⟩
theorem td_non : ∀ xs : List V, ∃ ds : List PyData, ds.length = xs.length := fun xs => ⟨List.replicate xs.length .none, List.length_replicate⟩
theorem et_truL {p : Addr} {xs : List V} (h : Ev te σ H (.ref p)) (hp : H p = some (.lst xs)) : EvT (fun σ H Q => te σ H fun x H' => ∃ k, TruV K x H' k ∧ Q k H') σ H (!xs.isEmpty) := fun H1 e Q q => h H1 e _ fun H2 e2 => ⟨_, .inl ⟨xs, SqL.of ((e.trans e2) _ _ hp), rfl⟩, q H2 e2⟩
theorem ixN_nat {n k : Nat} (h : k < n) : ixN n (k : Int) = some k := by
  unfold ixN
  rw [if_pos (by omega), if_pos (by omega), Int.toNat_natCast]
/-- self.f[i], f a list of things -/
theorem ev_fix {p : Addr} {xs : List V} {k : Nat} (h : Ev te σ H (.ref a)) (hv : Has H C a f (.ref p)) (cl : Cls K C) (na : NoAttr K C f) (hp : H p = some (.lst xs)) (hi : Ev tb σ H (.int (k : Int))) (hk : xs[k]? = some v) : Ev (tOp (rIxL K) (tFld K te f) tb) σ H v :=
  ev_op (ev_has h hv cl na) hi (rv_ixL (SqL.of hp) (atI_nat hk))
/-- sorted of nothing -/
theorem ld_sortE (h : EvLd te σ H []) : EvLd (tCB (rSortLex K) (tCons te tNil)) σ H [] := fun H1 e Q q => go_sortI (nss := []) (dd := 1) h (by decide) (fun ns hn => nomatch hn) e fun r ys mss H2 n e2 hr ty pm _ => by
  have em := List.Perm.eq_nil pm
  subst em
  exact q r ys H2 e2 hr ty
/-- a comprehension of new empty lists over a list that stays -/
theorem go_lcE {p : Addr} {xs : List V} {j : Nat} (h : Ev tl σ H (.ref p)) (hp : H p = some (.lst xs)) (hz : xs.length ≤ 40000) (hw : ∀ x, wipe ((wipe σ vs).set j (some x)) vs = wipe σ vs)
    (hs : ∀ x H1, Ex H H1 → x ∈ xs → ∀ Q : VK, (∀ e H2, H1 e = none → Ex H1 H2 → H2 e = some (.lst []) → Q (.ref e) H2) → te ((wipe σ vs).set j (some x)) H1 Q)
    {H0 : Hp} (e0 : Ex H H0) {Q : VK} (q : ∀ l H1, H0 l = none → Ex H0 H1 → Empties H1 l xs.length → Q (.ref l) H1) : tLc (iList K tl) (gName j) tYes te vs σ H0 Q := by
  refine h H0 e0 _ fun H1 e1 => ⟨p, rfl, ⟨xs, SqL.of ((e0.trans e1) _ _ hp)⟩, fun Dl hD => ?_⟩
  refine lc_list (xs := xs) (fun i H' => Ex H1 H' ∧ ∃ es : List Addr, H' Dl = some (.lst (es.map V.ref)) ∧ es.length = i ∧ ∀ e ∈ es, e ≠ Dl ∧ H' e = some (.lst [])) ⟨Ex.new hD, [], upd_same, rfl, fun _ m => nomatch m⟩ (fun i H' _ c => SqL.of ((e0.trans e1).trans c.1 _ _ hp)) (fun i x H' hx c => ?_) fun H' c => ?_
  · obtain ⟨c1, es, c2, c3, c4⟩ := c
    refine ⟨hw x, yes_ite ?_⟩
    have hlt := (List.getElem?_eq_some_iff.mp hx).1
    refine hs x H' ((e0.trans e1).trans c1) (List.mem_of_getElem? hx) _ fun e H2 ne e2 he => ⟨es.map V.ref, e2 _ _ c2, sz_lt (by rw [List.length_map]; omega), Ex.mut (c1.trans e2) hD, es ++ [e], ?_, by rw [List.length_append, c3]; rfl, fun b hb => ?_⟩
    · rw [List.map_append]
      exact upd_same
    · have nD : ∀ {b : Addr}, H2 b = some (.lst []) → b ≠ Dl → (upd H2 Dl (.lst (es.map V.ref ++ [V.ref e]))) b = some (.lst []) := fun h n => by
        rw [upd_ne n]
        exact h
      rcases List.mem_append.mp hb with m | m
      · obtain ⟨n, hb'⟩ := c4 b m
        exact ⟨n, nD (e2 _ _ hb') n⟩
      · rw [List.mem_singleton.mp m]
        have n : e ≠ Dl := fun z => by
          rw [z, c2] at ne
          cases ne
        exact ⟨n, nD he n⟩
  · obtain ⟨c1, es, c2, c3, c4⟩ := c
    exact q Dl H' (fresh_back e1 hD) (e1.trans c1) ⟨es, c2, c3, fun e he => (c4 e he).2⟩
end
section
variable {P : Program} {w : World} {K : PySem.W.Frag} {mg : Str → Option Value} {base : Heap} {CW : Addr}
abbrev nmTd : List Str := ["self", "ranks", "turns", "start", "end", "cover", "rank", "left", "right"]
theorem scTd : FnScope nmTd ["self"] (defScope sTd) := ⟨rfl, rfl, rfl, by decide +kernel, rfl, by decide +kernel, by decide +kernel⟩
theorem ok_td {f : Addr} {fd : FuncData} (F : Fun K "_turned" "Web._turned" sTd f fd) (T2 : TN2 mg) (W : WC K mg CW) (CR : Cl P w K mg base 3 "slope_ranks" spSR) : FnOk P w K mg base CX0 4 f fd ["self"] (spTd CW) := by
  refine F.ok scTd (fun vs H Q E h => ?_) (fun cdv A' outer s H vs Q E hr h => ?_)
  · obtain ⟨a, rfl, _⟩ := h
    rfl
  · obtain ⟨a, rfl, ⟨sp, hs1, hs2⟩, ⟨ti, ht1, ht2⟩, ⟨co, hc1, hc2⟩, q⟩ := h
    refine ⟨_, (pss_cons (ps_set (i := 1) scTd.nd rfl (Or.inl rfl) (pe_cl CR hr (by decide) (by rfl) (pa_cons (pe_lc (own := [("left", 7), ("right", 8)]) (g := gTup K 2 (gCons (gName 7) (gCons (gName 8) gNil))) (by rfl) scTd.nd (pi_list (pe_fld (pv 0) rfl))
        (blkOk_by (own := [("left", 7), ("right", 8)]) (N := nmTd) (sc := defScope sTd) (by decide +kernel))
        (fun _ _ _ _ _ => by exact (pg_tup (by rfl) (pgs_cons (pg_name (i := 7) scTd.nd rfl (Or.inl rfl)) (pgs_cons (pg_name (i := 8) scTd.nd rfl (Or.inl rfl)) pgs_nil)))) (fun _ _ _ _ _ => pts_nil)
        (te := tNo) (fun _ _ _ _ _ => by exact pe_never)) pa_nil)))
      (pss_cons (ps_set (i := 2) scTd.nd rfl (Or.inl rfl) (pe_lst pa_nil))
      (pss_cons (ps_for PassesOwn.never rfl (pi_zip (by rfl) T2.zip (pa_cons (pe_fld (pv 0) rfl) (pa_cons (pe_fld (pv 0) rfl) pa_nil))) (pg_tup (by rfl) (pgs_cons (pg_tup (by rfl) (pgs_cons (pg_name (i := 3) scTd.nd rfl (Or.inl rfl)) (pgs_cons (pg_name (i := 4) scTd.nd rfl (Or.inl rfl)) pgs_nil))) (pgs_cons (pg_name (i := 5) scTd.nd rfl (Or.inl rfl)) pgs_nil)))
        pss_never)
      (pss_one (ps_ret (pv 2)))))), ?_⟩
    refine q_asgDs (ds := []) (fun H1 e1 Q q' => ?_) fun l1 xs1 H1 e1 n1 hl1 y1 => ?_
    · refine go_call1 ((eds_lcE (σ := [some (.ref a), none, none, none, none, none, none, none, none]) (te := tNo) (tt := tYes) (vs := [7, 8]) (ei_has (K := K) (ev_var (i := 0) rfl) hs1 W.cl W.spans hs2 .nil)) H1 e1 _ fun l xs H2 nl e2 hl y => ?_)
      cases y.inv0
      exact ⟨l, rfl, hl, fun l2 H3 n2 e3 hl2 => q' l2 [] H3 (fresh_back e2 n2) (e2.trans e3) hl2 .nil⟩
    refine q_asgDs (eds_lst da_nil (by decide)) fun l2 xs2 H2 e2 n2 hl2 y2 => ?_
    cases y2.inv0
    have e12 := e1.trans e2
    refine q_forE (ei_zip (α := Nat) (f := fun _ => .none) (g := fun _ => .none) (es := []) (ld_of (ev_has (ev_var (i := 0) rfl) (ht1.mono e12) W.cl W.ties) (e12 _ _ ht2) .nil) (ld_of (ev_has (ev_var (i := 0) rfl) (hc1.mono e12) W.cl W.covering) (e12 _ _ hc2) .nil)) fun H3 e3 => ?_
    exact s_ret (ev_var (i := 2) rfl) fun H4 e4 => q l2 H4 (fresh_back e1 n2) (e12.trans (e3.trans e4)) ((e3.trans e4) _ _ hl2)
abbrev nmGa : List Str := ["self", "turned", "half", "_", "halves"]
theorem scGa : FnScope nmGa ["self"] (defScope sGa) := ⟨rfl, rfl, rfl, by decide +kernel, rfl, by decide +kernel, by decide +kernel⟩
theorem ok_ga {f : Addr} {fd : FuncData} (F : Fun K "_gathered" "Web._gathered" sGa f fd) (T : TN mg) (W : WC K mg CW) : FnOk P w K mg base CX0 1 f fd ["self"] (spGa CW) := by
  refine F.ok scGa (fun vs H Q E h => ?_) (fun cdv A' outer s H vs Q E hr h => ?_)
  · obtain ⟨a, p, xs, rfl, _⟩ := h
    rfl
  · obtain ⟨a, p, xs, rfl, hs1, hs2, hl, ⟨tu, ht1, ht2⟩, q⟩ := h
    refine ⟨_, (pss_cons (ps_setLc (i := 1) (own := [("_", 3)]) (g := gName 3) (by rfl) scGa.nd rfl rfl (sw_true rfl rfl rfl (by decide +kernel)) (pi_list (pe_fld (pv 0) rfl))
        (blkOk_by (own := [("_", 3)]) (N := nmGa) (sc := defScope sGa) (by decide +kernel))
        (fun _ _ _ _ _ => by exact (pg_name (i := 3) scGa.nd rfl (Or.inl rfl))) (fun _ _ _ _ _ => pts_nil)
        (te := (tLst tNil)) (fun _ _ _ _ _ => by exact (pe_lst pa_nil)))
      (pss_cons (ps_for PassesOwn.never rfl (pi_range1 (by rfl) T.range (pa_cons (pe_callB call_len_seq (by rfl) T.len PySem.boot_len (pa_cons (pe_fld (pv 0) rfl) pa_nil)) pa_nil)) (pg_name (i := 2) scGa.nd rfl (Or.inl rfl))
        pss_never)
      (pss_one (ps_ret (pe_lc (own := [("halves", 4)]) (g := gName 4) (by rfl) scGa.nd (pi_list (pv 1))
        (blkOk_by (own := [("halves", 4)]) (N := nmGa) (sc := defScope sGa) (by decide +kernel))
        (fun _ _ _ _ _ => by exact (pg_name (i := 4) scGa.nd rfl (Or.inl rfl))) (fun _ _ _ _ _ => pts_nil)
        (te := (tLc (iList K (tCB (rSortLex K) (tCons (tVar 4) tNil))) (gTup K 2 (gCons (gName 3) (gCons (gName 2) gNil))) tYes (tVar 2) [3, 2])) (fun _ _ _ _ _ => by exact (pe_lc (own := [("_", 3), ("half", 2)]) (g := gTup K 2 (gCons (gName 3) (gCons (gName 2) gNil))) (by rfl) scGa.nd (pi_list (pe_callB cr_sortLex (by rfl) T.sorted (by decide +kernel) (by exact (pa_cons (pv 4) pa_nil))))
        (blkOk_by (by rfl))
        (fun _ _ _ _ _ => by exact (pg_tup (by rfl) (pgs_cons (pg_name (i := 3) scGa.nd rfl (Or.inl rfl)) (pgs_cons (pg_name (i := 2) scGa.nd rfl (Or.inl rfl)) pgs_nil)))) (fun _ _ _ _ _ => pts_nil)
        (te := (tVar 2)) (fun _ _ _ _ _ => by exact (pv 2))))))))), ?_⟩
    refine q_asgQ (go_lcE (ev_has (ev_var (i := 0) rfl) hs1 W.cl W.spots) hs2 (by omega) (fun _ => rfl) (fun x H1 e1 _ Q q' => ⟨Nat.zero_le _, fun e he => q' e _ he (Ex.new he) upd_same⟩) (Ex.refl H) fun l H1 nl e1 em => ?_)
    obtain ⟨es, m1, m2, m3⟩ := em
    refine q_forE (ei_rng (m := 0) (ea_cons (ev_lenF (ev_var (i := 0) rfl) (ht1.mono e1) W.cl W.turns (e1 _ _ ht2)) ea_nil) (by decide)) fun H2 e2 => ?_
    refine s_retQ (go_lcE (ev_var (i := 1) rfl) (e2 _ _ m1) (by rw [List.length_map]; omega) (fun _ => rfl) (fun x H3 e3 hx Q q' => ?_) (Ex.refl H2) fun l2 H3 n2 e3 em => ?_)
    · obtain ⟨e, he, rfl⟩ := List.mem_map.mp hx
      have h0 := (e2.trans e3) _ _ (m3 e he)
      refine (eds_lcE (te := tVar 2) (tt := tYes) (vs := [3, 2]) (ei_list (K := K) (ld_sortE (ld_of (ev_var (i := 4) (σ := [some (.ref a), some (.ref l), none, none, some (.ref e)]) rfl) h0 .nil)))) H3 (Ex.refl _) _ fun e' xs H4 ne e4 he' y => ?_
      cases y.inv0
      exact q' e' H4 ne e4 he'
    · rw [List.length_map, m2] at em
      exact q l2 H3 (fresh_back (e1.trans e2) n2) ((e1.trans e2).trans e3) em
abbrev nmFo : List Str := ["self", "after", "halves", "place", "half"]
theorem scFo : FnScope nmFo ["self"] (defScope sFo) := ⟨rfl, rfl, rfl, by decide +kernel, rfl, by decide +kernel, by decide +kernel⟩
theorem ok_fo {f : Addr} {fd : FuncData} (F : Fun K "_followed" "Web._followed" sFo f fd) (T : TN mg) (T2 : TN2 mg) (W : WC K mg CW) : FnOk P w K mg base CX0 1 f fd ["self"] (spFo CW) := by
  refine F.ok scFo (fun vs H Q E h => ?_) (fun cdv A' outer s H vs Q E hr h => ?_)
  · obtain ⟨a, p, n, rfl, _⟩ := h
    rfl
  · obtain ⟨a, p, n, rfl, ⟨tu, ht1, ht2⟩, hl1, em, hn, q⟩ := h
    refine ⟨_, (pss_cons (ps_set (i := 1) scFo.nd rfl (Or.inl rfl) (pe_op op_rep (pe_lst (pa_cons (pe_int) pa_nil)) (pe_callB call_len_seq (by rfl) T.len PySem.boot_len (pa_cons (pe_fld (pv 0) rfl) pa_nil))))
      (pss_cons (ps_for PassesOwn.never rfl (pi_list (pe_fld (pv 0) rfl)) (pg_name (i := 2) scFo.nd rfl (Or.inl rfl))
        (pss_one (ps_for PassesOwn.never rfl (pi_enum (by rfl) T2.enum (pa_cons (pv 2) pa_nil)) (pg_tup (by rfl) (pgs_cons (pg_name (i := 3) scFo.nd rfl (Or.inl rfl)) (pgs_cons (pg_name (i := 4) scFo.nd rfl (Or.inl rfl)) pgs_nil)))
          pss_never)))
      (pss_one (ps_ret (pv 1))))), ?_⟩
    refine q_asgDs (eds_rep (d := .int 0) (n := 0) (eds_lst (da_cons (ed_int ev_c) da_nil) (by decide)) (fun H1 e1 => ev_lenF (ev_var (i := 0) rfl) (ht1.mono e1) W.cl W.turns (e1 _ _ ht2)) (by decide)) fun l xs H1 e1 nl hl y => ?_
    cases y.inv0
    obtain ⟨es, m1, m2, m3⟩ := em
    refine q_forLn (j := 2) (ev_has (ev_var (i := 0) rfl) (hl1.mono e1) W.cl W.leaving) (SqL.of (e1 _ _ m1)) (fun i σ' H' => Ex H1 H' ∧ ∃ u v z, σ' = [some (.ref a), some (.ref l), u, v, z]) (fun H2 e2 => ⟨e2, _, _, _, rfl⟩) (fun i σ' H' _ c => SqL.of ((e1.trans c.1) _ _ m1)) (fun i x σ' H' hx c => ?_) fun σ' H' c => ?_
    · obtain ⟨c1, u, v, z, rfl⟩ := c
      rw [List.getElem?_map] at hx
      obtain ⟨e, he, rfl⟩ := Option.map_eq_some_iff.mp hx
      exact s_forE (ei_enumE (ev_var (i := 2) (σ := [some (.ref a), some (.ref l), some (.ref e), v, z]) rfl) ((e1.trans c1) _ _ (m3 e (List.mem_of_getElem? he)))) fun H2 e2 => ⟨c1.trans e2, _, _, _, rfl⟩
    · obtain ⟨c1, u, v, z, rfl⟩ := c
      exact s_ret (ev_var (i := 1) rfl) fun H3 e3 => q l H3 nl ((e1.trans c1).trans e3) ((c1.trans e3) _ _ hl)
abbrev nmRP : List Str := ["self", "point", "half"]
theorem scRP : FnScope nmRP ["self", "point"] (defScope sRP) := ⟨rfl, rfl, rfl, by decide +kernel, rfl, by decide +kernel, by decide +kernel⟩
theorem ok_rp {f : Addr} {fd : FuncData} (F : Fun K "room_of_point" "Web.room_of_point" sRP f fd) (CH : Cl P w K mg base 1 "half_below" (spHB CW)) : FnOk P w K mg base CX0 2 f fd ["self", "point"] (spRP CW) := by
  refine F.ok scRP (fun vs H Q E h => ?_) (fun cdv A' outer s H vs Q E hr h => ?_)
  · obtain ⟨a, v, rfl, _⟩ := h
    rfl
  · obtain ⟨a, v, rfl, hr1, q⟩ := h
    refine ⟨_, (pss_cons (ps_set (i := 2) scRP.nd rfl (Or.inl rfl) (pe_cl CH hr (by decide) (by rfl) (pa_cons (pv 0) (pa_cons (pv 1) pa_nil))))
      (pss_cons (ps_if (pt_cmpR op_isN1 (pv 2) pe_non (nomark _)) (pss_one (ps_ret pe_int)) pss_nil) pss_never)), ?_⟩
    refine q_asg (v := .non) (fun H1 e1 Q q' => ⟨_, rfl, _, rfl, a, v, rfl, hr1.mono e1, q'⟩) fun H1 e1 => ?_
    refine q_yes (et_is (et_test (b := true) (ev_op (ev_var (i := 2) rfl) ev_c fun H3 e3 Q q' => ⟨rfl, q' H3 (Ex.refl _)⟩)) rfl) fun H3 e3 => ?_
    exact s_ret ev_c fun H4 e4 => q H4 ((e1.trans e3).trans e4)
abbrev nmSee : List Str := ["self", "seen", "first", "waiting", "spot", "half", "neighbour"]
theorem scSee : FnScope nmSee ["self", "seen", "first"] (defScope sSee) := ⟨rfl, rfl, rfl, by decide +kernel, rfl, by decide +kernel, by decide +kernel⟩
theorem ok_see {f : Addr} {fd : FuncData} (F : Fun K "_see_part" "Web._see_part" sSee f fd) (W : WC K mg CW) : FnOk P w K mg base CX0 1 f fd ["self", "seen", "first"] (spSee CW) := by
  refine F.ok scSee (fun vs H Q E h => ?_) (fun cdv A' outer s0 H vs Q E hr h => ?_)
  · obtain ⟨a, s, p, bs, k, n, rfl, _⟩ := h
    rfl
  · obtain ⟨a, s, p, bs, k, n, rfl, hs, hk, hl1, em, hkn, nps, ne, q⟩ := h
    refine ⟨_, (pss_cons (ps_asg pe_bl (pg_sub (pv 1) (pv 2) set_list))
      (pss_cons (ps_set (i := 3) scSee.nd rfl (Or.inl rfl) (pe_lst (pa_cons (pv 2) pa_nil)))
      (pss_one (ps_while PassesOwn.never (pt_truth (pv 3) (fun _ => rfl)) (pss_cons (ps_set (i := 4) scSee.nd rfl (Or.inl rfl) (pe_bm0 PySem.F.plainAttrs_list PySem.F.slot_list_pop PySem.F.type_list_pop mt_pop (pv 3)))
        (pss_one (ps_for PassesOwn.never rfl (pi_list (pe_ix ix_list (pe_fld (pv 0) rfl) (pv 4) (fun _ _ => rfl))) (pg_name (i := 5) scSee.nd rfl (Or.inl rfl))
          pss_never))))))), ?_⟩
    obtain ⟨es, m1, m2, m3⟩ := em
    refine ⟨_, rfl, _, rfl, s, bs, k, k, rfl, rfl, hs, ?_, ?_⟩
    · exact ixN_nat hk
    have has : a ≠ s := fun z => by
      obtain ⟨dx, fs, h1, _⟩ := hl1
      rw [z, hs] at h1
      cases h1
    have l1 : Has (upd H s (.lst (bs.set k (.bl true)))) CW a "leaving" (.ref p) := by
      obtain ⟨dx, fs, h1, h2⟩ := hl1
      exact ⟨dx, fs, by rw [upd_ne has]; exact h1, h2⟩
    have p1 : upd H s (.lst (bs.set k (.bl true))) p = some (.lst (es.map V.ref)) := by
      rw [upd_ne nps]
      exact m1
    have hek : es[k]? = some es[k] := List.getElem?_eq_getElem (by omega)
    have e0 : upd H s (.lst (bs.set k (.bl true))) es[k] = some (.lst []) := by
      have z := m3 es[k] (List.getElem_mem _)
      rw [upd_ne (ne _ z)]
      exact z
    generalize upd H s (.lst (bs.set k (.bl true))) = H1 at q l1 p1 e0 ⊢
    refine q_asgDs (ds := [.int (k : Int)]) (eds_lst (da_cons (ed_int (ev_var (i := 2) rfl)) da_nil) (show 1 ≤ 100000 by decide)) fun wl xs H2 e2 nw hw y => ?_
    obtain ⟨u0, y0, rfl, x0, y⟩ := y.inv
    cases y.inv0
    cases x0.int
    refine s_while (fun m σ' H' => Ex H1 H' ∧ (∃ u v z, σ' = [some (.ref a), some (.ref s), some (.int (k : Int)), some (.ref wl), u, v, z]) ∧ ((m = 1 ∧ H' wl = some (.lst [.int (k : Int)])) ∨ (m = 0 ∧ H' wl = some (.lst [])))) 1 ⟨e2, ⟨_, _, _, rfl⟩, .inl ⟨rfl, hw⟩⟩ ?_
    rintro m σ' H' ⟨c1, ⟨u, v, z, rfl⟩, ⟨rfl, c2⟩ | ⟨rfl, c2⟩⟩
    · refine ⟨true, et_truL (ev_var (i := 3) rfl) c2, fun _ H3 e3 => ⟨fun σ2 H2 => Ex H1 H2 ∧ (∃ u v z, σ2 = [some (.ref a), some (.ref s), some (.int (k : Int)), some (.ref wl), u, v, z]) ∧ H2 wl = some (.lst []), fun σ2 H2 c => ⟨0, by decide, c.1, c.2.1, .inr ⟨rfl, c.2.2⟩⟩, ?_⟩, fun z => nomatch z⟩
      have w3 := e3 _ _ c2
      refine q_asgQ ⟨_, rfl, .inl ⟨rfl, _, SqL.of w3⟩, wl, _, .int (k : Int), rfl, rfl, w3, rfl, ?_⟩
      have e4 : Ex H1 (upd H3 wl (.lst [])) := Ex.mut (c1.trans e3) nw
      refine s_forE (ei_list (K := K) (ld_of (ev_fix (k := k) (C := CW) (p := p) (xs := es.map V.ref) (v := .ref es[k]) (ev_var (i := 0) rfl) (l1.mono e4) W.cl W.leaving (e4 _ _ p1) (ev_var (i := 4) rfl) (by rw [List.getElem?_map, hek]; rfl)) (e4 _ _ e0) .nil)) fun H5 e5 => ⟨e4.trans e5, ⟨_, _, _, rfl⟩, e5 _ _ upd_same⟩
    · exact ⟨false, et_truL (ev_var (i := 3) rfl) c2, (fun z => nomatch z), fun _ H3 e3 => q _ (c1.trans e3)⟩
end
end Q
set_option Elab.async false
set_option linter.all false
set_option maxRecDepth 100000
set_option maxHeartbeats 4000000
/-! the first spots of the parts of a web without sides: all spots -/
namespace Q
open PySem L2 PySem.Spec PyProof.Rows PySem.Calls PySem.OwnX
open Evl
open PySem.W (AllAlike Sortable dataLe alike)
abbrev sFS1 : Stmt := inClass (top 50) 8
/-- told ints, each spot once -/
def Firsts (H : Hp) (l : Addr) (n : Nat) : Prop := ∃ ks : List Nat, H l = some (.lst (ks.map fun k : Nat => V.int (k : Int))) ∧ ks.Perm (List.range n)
theorem Firsts.mono {H H' : Hp} {l : Addr} {n : Nat} (h : Firsts H l n) (e : Ex H H') : Firsts H' l n := by
  obtain ⟨ks, h1, h2⟩ := h
  exact ⟨ks, e _ _ h1, h2⟩
/-- the thing at a has no own m -/
def Lacks (H : Hp) (C a : Addr) (m : Str) : Prop := ∃ dx fs, H a = some (.ins C dx fs) ∧ fs.lookup m = none
theorem Lacks.mono {H H' : Hp} {C a : Addr} {m : Str} (h : Lacks H C a m) (e : Ex H H') : Lacks H' C a m := by
  obtain ⟨dx, fs, h1, h2⟩ := h
  exact ⟨dx, fs, e _ _ h1, h2⟩
def spFS1 (C : Addr) : Sp := fun vs H Q _ => ∃ (a sp st le : Addr) (xs ys : List V) (S : List (Int × Int)) (B : Int), vs = [.ref a] ∧ Has H C a "spots" (.ref sp) ∧ H sp = some (.lst xs) ∧ xs.length = S.length ∧ Has H C a "steps" (.ref st) ∧ H st = some (.lst ys) ∧ TDs H ys (S.map (stepD B)) ∧
  Has H C a "leaving" (.ref le) ∧ Empties H le S.length ∧ S.length ≤ 1000 ∧ Lacks H C a "_see_part" ∧ ∀ l H', H l = none → Ex H H' → Firsts H' l S.length → Q (.ref l) H'
def rowF (B : Int) (e : Nat × (Int × Int)) : PyData := .tuple [stepD B e.2, .int (e.1 : Int)]
theorem rowF_alike (B : Int) (es : List (Nat × (Int × Int))) : AllAlike (es.map (rowF B)) := fun d hd e he => by
  obtain ⟨a, _, rfl⟩ := List.mem_map.mp hd
  obtain ⟨b, _, rfl⟩ := List.mem_map.mp he
  rfl
theorem rowF_sortable (B : Int) (es : List (Nat × (Int × Int))) : Sortable (es.map (rowF B)) := .inl fun d hd => by
  obtain ⟨a, _, rfl⟩ := List.mem_map.mp hd
  exact ⟨_, _, rfl⟩
theorem rowF_depth (B : Int) (es : List (Nat × (Int × Int))) : ∀ d ∈ es.map (rowF B), d.depth ≤ 60 := fun d hd => by
  obtain ⟨a, _, rfl⟩ := List.mem_map.mp hd
  unfold rowF stepD
  simp [PyData.depth, PyData.depthAll]
theorem numD_steps (B : Int) (S : List (Int × Int)) (f : Int × Int → PyData) : numD (S.map f) = ((List.range S.length).zip S).map fun n : Nat × (Int × Int) => PyData.tuple [.int (n.1 : Int), f n.2] := by
  refine List.ext_getElem (by rw [numD_len]; simp) fun i h1 h2 => ?_
  rw [numD_len, List.length_map] at h1
  have z1 := numD_at (ds := S.map f) (i := i) (d := f S[i]) (by rw [List.getElem?_map, List.getElem?_eq_getElem h1]; rfl)
  rw [List.getElem?_eq_getElem (by rw [numD_len, List.length_map]; exact h1)] at z1
  rw [Option.some.inj z1]
  simp
section
variable {P : Program} {w : World} {K : PySem.W.Frag} {mg : Str → Option Value} {base : Heap} {CW : Addr}
abbrev nmFS1 : List Str := ["self", "seen", "found", "_", "first", "spot", "step"]
theorem scFS1 : FnScope nmFS1 ["self"] (defScope sFS1) := ⟨rfl, rfl, rfl, by decide +kernel, rfl, by decide +kernel, by decide +kernel⟩
theorem ok_fs1 {f : Addr} {fd : FuncData} (F : Fun K "_first_spots" "Web._first_spots" sFS1 f fd) (T : TN mg) (T2 : TN2 mg) (W : WC K mg CW) (MS : Mt P w K mg base 1 CW "_see_part" (spSee CW)) : FnOk P w K mg base CX0 2 f fd ["self"] (spFS1 CW) := by
  refine F.ok scFS1 (fun vs H Q E h => ?_) (fun cdv A' outer s0 H vs Q E hr h => ?_)
  · obtain ⟨a, sp, st, le, xs, ys, S, B, rfl, _⟩ := h
    rfl
  · obtain ⟨a, sp, st, le, xs, ys, S, B, rfl, hs1, hs2, hxs, ht1, ht2, ty, hl1, em, hz, lk, q⟩ := h
    refine ⟨_, (pss_cons (ps_set (i := 1) scFS1.nd rfl (Or.inl rfl) (pe_op op_rep (pe_lst (pa_cons (pe_bl) pa_nil)) (pe_callB call_len_seq (by rfl) T.len PySem.boot_len (pa_cons (pe_fld (pv 0) rfl) pa_nil))))
      (pss_cons (ps_set (i := 2) scFS1.nd rfl (Or.inl rfl) (pe_lst pa_nil))
      (pss_cons (ps_for PassesOwn.never rfl (pi_list (pe_callB (cr_sortD (un65 hr)) (by rfl) T.sorted (by decide +kernel) (pa_cons (pe_lc (own := [("spot", 5), ("step", 6)]) (g := gTup K 2 (gCons (gName 5) (gCons (gName 6) gNil))) (by rfl) scFS1.nd (pi_enum (by rfl) T2.enum (pa_cons (pe_fld (pv 0) rfl) pa_nil))
        (blkOk_by (own := [("spot", 5), ("step", 6)]) (N := nmFS1) (sc := defScope sFS1) (by decide +kernel))
        (fun _ _ _ _ _ => by exact (pg_tup (by rfl) (pgs_cons (pg_name (i := 5) scFS1.nd rfl (Or.inl rfl)) (pgs_cons (pg_name (i := 6) scFS1.nd rfl (Or.inl rfl)) pgs_nil)))) (fun _ _ _ _ _ => pts_nil)
        (te := (tTup (tCons (tVar 6) (tCons (tVar 5) tNil)))) (fun _ _ _ _ _ => by exact (pe_tup (by exact (pa_cons (pv 6) (pa_cons (pv 5) pa_nil)))))) pa_nil))) (pg_tup (by rfl) (pgs_cons (pg_name (i := 3) scFS1.nd rfl (Or.inl rfl)) (pgs_cons (pg_name (i := 4) scFS1.nd rfl (Or.inl rfl)) pgs_nil)))
        (pss_one (ps_if (pt_not (pt_val (pe_ix ix_list (pv 1) (pv 4) (fun _ _ => rfl)))) (pss_cons (ps_expr (pe_bm PySem.F.plainAttrs_list PySem.F.slot_list_append PySem.F.type_list_append mt_append (pv 2) (pa_cons (pv 4) pa_nil)))
          (pss_one (ps_expr (pe_mt MS hr (by decide) (pv 0) (pa_cons (pv 1) (pa_cons (pv 4) pa_nil)))))) pss_nil)))
      (pss_one (ps_ret (pv 2)))))), ?_⟩
    refine q_asgDs (eds_rep (d := .bool false) (n := S.length) (eds_lst (da_cons (ed_bool ev_c) da_nil) (by decide)) (fun H1 e1 => by rw [← hxs]; exact ev_lenF (ev_var (i := 0) rfl) (hs1.mono e1) W.cl W.spots (e1 _ _ hs2)) (by omega)) fun sn bs H1 e1 nsn hsn yb => ?_
    refine q_asgDs (eds_lst da_nil (by decide)) fun fo fs0 H2 e2 nfo hfo yf => ?_
    cases yf.inv0
    have e12 := e1.trans e2
    have rows := eds_it (σ := [some (.ref a), some (.ref sn), some (.ref fo), none, none, none, none]) (H := H2) (enc := fun n : Nat × (Int × Int) => .tuple [.int (n.1 : Int), stepD B n.2]) (es := (List.range S.length).zip S) (te := tTup (tCons (tVar 6) (tCons (tVar 5) tNil))) (g := gTup K 2 (gCons (gName 5) (gCons (gName 6) gNil))) (vs := [5, 6]) (tt := tYes) (fun _ => true) (rowF B)
      (by
        have z := ei_enum (K := K) (ld_of (ev_has (H := H2) (ev_var (i := 0) (σ := [some (.ref a), some (.ref sn), some (.ref fo), none, none, none, none]) rfl) (ht1.mono e12) W.cl W.steps) (e12 _ _ ht2) (ty.mono e12))
        rw [numD_steps B] at z
        exact z) (by simp; omega) fun n hn => turn_t2 (d1 := .int (n.1 : Int)) (d2 := stepD B n.2) rfl (fun _ _ => rfl) (fun _ _ _ _ _ _ => et_yes) fun u v H3 e3 x1 x2 _ => by
          rw [x1.int]
          exact ed_tup (da_cons (ed_var rfl x2) (da_cons (ed_int (ev_var rfl)) da_nil)) (show (2 : Nat) ≤ 100000 by decide)
    rw [filt_all] at rows
    have srt := eds_sortD (K := K) (ld_new rows) (rowF_alike B _) (rowF_sortable B _) (rowF_depth B _)
    have pm := List.mergeSort_perm (((List.range S.length).zip S).map (rowF B)) (dataLe false id)
    obtain ⟨es', pe', ee⟩ := perm_lift (rowF B) pm ((List.range S.length).zip S) rfl
    rw [← ee] at srt
    obtain ⟨les, m1, m2, m3⟩ := em
    have ks : (es'.map (·.1)).Perm (List.range S.length) := by
      have z := pe'.map (·.1)
      have z2 : ((List.range S.length).zip S).map (·.1) = List.range S.length := List.map_fst_zip (by simp)
      rw [z2] at z
      exact z
    have ln : es'.length = S.length := by
      have := pe'.length_eq
      simpa using this
    have hb0 : bs = List.replicate S.length (.bl false) := by
      have z : List.replicate S.length (PyData.bool false) = (List.replicate S.length false).map PyData.bool := List.map_replicate.symm
      rw [z] at yb
      rw [yb.bls_inv, List.map_replicate]
    subst hb0
    refine srt H2 (Ex.refl _) _ fun L ls H3 nL e3 hL tL => ⟨L, rfl, ⟨_, SqL.of hL⟩, ?_⟩
    have e13 := e12.trans e3
    have nsf : sn ≠ fo := fun z => by
      rw [z, nfo] at hsn
      cases hsn
    have off : ∀ l o, H l = some o → l ≠ sn ∧ l ≠ fo := by
      intro l o hl
      constructor
      · rintro rfl
        rw [nsn] at hl
        cases hl
      · rintro rfl
        have z := e1 _ _ hl
        rw [nfo] at z
        cases z
    refine for_it (walk_list (K := K) (a := L) (xs := ls)) (fun i σ' H' => (∀ l o, l ≠ sn → l ≠ fo → H3 l = some o → H' l = some o) ∧ (∃ u v, σ' = [some (.ref a), some (.ref sn), some (.ref fo), u, v, none, none]) ∧ H' fo = some (.lst ((es'.take i).map fun e => V.int (e.1 : Int))) ∧
      ∃ bs', H' sn = some (.lst bs') ∧ bs'.length = S.length ∧ ∀ e ∈ es'.drop i, bs'[e.1]? = some (.bl false)) ?_ ?_ ?_ ?_
    · refine ⟨fun _ _ _ _ z => z, ⟨_, _, rfl⟩, e3 _ _ hfo, _, (e2.trans e3) _ _ hsn, List.length_replicate, fun e he => ?_⟩
      have m : e.1 ∈ List.range S.length := ks.mem_iff.mp (List.mem_map.mpr ⟨e, List.mem_of_mem_drop he, rfl⟩)
      rw [List.getElem?_replicate, if_pos (List.mem_range.mp m)]
    · rintro i σ' H' _ ⟨c1, _⟩
      have nLs : L ≠ sn := fun z => by
        have z2 := e2 _ _ hsn
        rw [← z, nL] at z2
        cases z2
      have nLf : L ≠ fo := fun z => by
        rw [← z, nL] at hfo
        cases hfo
      exact SqL.of (c1 _ _ nLs nLf hL)
    · rintro i x σ' H' H'' hi ⟨c1, ⟨u, v, rfl⟩, c3, bs', c4, c5, c6⟩ ⟨rfl, hx⟩
      obtain ⟨d, hd, t⟩ := tL.to hx
      rw [List.getElem?_map] at hd
      obtain ⟨e, he, rfl⟩ := Option.map_eq_some_iff.mp hd
      obtain ⟨p, zs, rfl, hp, y⟩ := t.tup
      obtain ⟨u1, y1, rfl, x1, y⟩ := y.inv
      obtain ⟨u2, y2, rfl, x2, y⟩ := y.inv
      cases y.inv0
      cases x2.int
      have sn3 := (e2.trans e3) _ _ hsn
      have fo3 := e3 _ _ hfo
      have np : p ≠ sn ∧ p ≠ fo := by
        constructor
        · rintro rfl
          rw [hp] at sn3
          cases sn3
        · rintro rfl
          rw [hp] at fo3
          cases fo3
      have hei : i < es'.length := (List.getElem?_eq_some_iff.mp he).1
      have hdr : es'.drop i = e :: es'.drop (i + 1) := by
        have z := (List.getElem?_eq_some_iff.mp he).2
        rw [← z]
        exact List.drop_eq_getElem_cons hei
      have hb := c6 e (by rw [hdr]; exact List.mem_cons_self)
      have hkl : e.1 < bs'.length := (List.getElem?_eq_some_iff.mp hb).1
      refine ⟨p, _, rfl, SqT.of (c1 _ _ np.1 np.2 hp), rfl, u1, _, rfl, .int (e.1 : Int), _, rfl, rfl, ?_⟩
      refine s_when (b := true) (et_is (et_not (et_B (ev_op (ev_var (i := 1) rfl) (ev_var (i := 4) rfl) (rv_ixL (SqL.of c4) (atI_nat hb))))) rfl) (fun _ H4 e4 => ?_) fun z => nomatch z
      refine q_app (l := fo) (e4 _ _ c3) (ev_var (i := 2) rfl) (ev_var (i := 4) rfl) (by rw [List.length_map, List.length_take]; omega) fun H5 e5 => ?_
      have e45 := e4.trans e5
      have tr : Ex H (upd H5 fo (.lst ((es'.take i).map (fun e => V.int (e.1 : Int)) ++ [.int (e.1 : Int)]))) := fun l o hl => by
        obtain ⟨n1, n2⟩ := off l o hl
        rw [upd_ne n2]
        exact e45 _ _ (c1 l o n1 n2 (e13 _ _ hl))
      have sn5 : upd H5 fo (.lst ((es'.take i).map (fun e => V.int (e.1 : Int)) ++ [.int (e.1 : Int)])) sn = some (.lst bs') := by
        rw [upd_ne nsf]
        exact e45 _ _ c4
      obtain ⟨dx, fs, la, lb⟩ := lk.mono tr
      refine ⟨_, rfl, a, dx, fs, rfl, la, lb, _, rfl, _, rfl, a, sn, le, bs', e.1, S.length, rfl, sn5, hkl, hl1.mono tr, Empties.mono ⟨les, m1, m2, m3⟩ tr, by omega, (off _ _ m1).1, ?_, fun H6 e6 => ⟨?_, ⟨_, _, rfl⟩, ?_, bs'.set e.1 (.bl true), e6 _ _ upd_same, by rw [List.length_set]; exact c5, ?_⟩⟩
      · rintro b hb2 rfl
        rw [sn5] at hb2
        cases hb2
        exact absurd hkl (Nat.not_lt_zero _)
      · intro l o n1 n2 hl
        refine e6 _ _ ?_
        rw [upd_ne n1, upd_ne n2]
        exact e45 _ _ (c1 l o n1 n2 hl)
      · rw [take_snoc he, List.map_append]
        refine e6 _ _ ?_
        rw [upd_ne (Ne.symm nsf), upd_same]
        rfl
      · intro e2' h2
        have nd : (es'.map (·.1)).Nodup := ks.nodup_iff.mpr List.nodup_range
        have nd2 : ((es'.drop i).map (·.1)).Nodup := by
          rw [List.map_drop]
          exact nd.sublist (List.drop_sublist _ _)
        rw [hdr, List.map_cons, List.nodup_cons] at nd2
        have ne2 : e.1 ≠ e2'.1 := fun z => nd2.1 (List.mem_map.mpr ⟨e2', h2, z.symm⟩)
        rw [List.getElem?_set_ne ne2]
        exact c6 e2' (by rw [hdr]; exact List.mem_cons_of_mem _ h2)
    · rintro σ' H' ⟨c1, ⟨u, v, rfl⟩, c3, _⟩
      have z := tL.len
      rw [List.length_map] at z
      rw [z, List.take_length] at c3
      refine s_ret (ev_var (i := 2) rfl) fun H4 e4 => q fo H4 (fresh_back e1 nfo) ?_ ⟨es'.map (·.1), ?_, ks⟩
      · intro l o hl
        obtain ⟨n1, n2⟩ := off l o hl
        exact e4 _ _ (c1 l o n1 n2 (e13 _ _ hl))
      · rw [List.map_map]
        exact e4 _ _ c3
end
end Q
set_option Elab.async false
set_option linter.all false
set_option maxRecDepth 100000
set_option maxHeartbeats 4000000
/-! the rooms of a web without sides -/
namespace Q
open PySem L2 PySem.Spec PyProof.Rows PySem.Calls PySem.OwnX
open Evl
abbrev sSe : Stmt := inClass (top 50) 10
theorem look_put {f g : Str} {v : V} {fs : List (Str × V)} : (putF f v fs).lookup f = some v := by
  rw [lookup_putF, if_pos rfl]
theorem look_ne {f g : Str} {v : V} {fs : List (Str × V)} (n : g ≠ f) : (putF f v fs).lookup g = fs.lookup g := by
  rw [lookup_putF, if_neg n]
/-- what the rooms' settling may write -/
def settled (f : Str) : Bool := decide (f = "room_at") || (decide (f = "room_count") || (decide (f = "rooms_left") || decide (f = "borders")))
/-- v stands under f -/
def At (fs : List (Str × V)) (f : Str) (v : V) : Prop := fs.lookup f = some v
def Out (fs : List (Str × V)) (f : Str) : Prop := fs.lookup f = none
def spSe (C : Addr) : Sp := fun vs H Q _ => ∃ (a dx d fl le sp : Addr) (fs : List (Str × V)) (xs : List V) (S : List (Int × Int)), vs = [.ref a] ∧ H a = some (.ins C dx fs) ∧ fs.length ≤ 900 ∧ At fs "first_spots" (.ref fl) ∧ Firsts H fl S.length ∧
  At fs "leaving" (.ref le) ∧ Empties H le S.length ∧ At fs "spots" (.ref sp) ∧ H sp = some (.lst xs) ∧ TDs H xs (S.map c3) ∧ HasE H C a "walks" ∧ HasE H C a "walk_at" ∧ HasE H C a "turns" ∧ HasE H C a "rulers" ∧
  At fs "lone_rooms" (.ref d) ∧ H d = some (.dK []) ∧ Out fs "room_of_point" ∧ S.length ≤ 1000 ∧
  ∀ H' fs' r b c kvs, (∀ l o, l ≠ a → l ≠ d → H l = some o → H' l = some o) → H' a = some (.ins C dx fs') → (∀ f, settled f = false → fs'.lookup f = fs.lookup f) → At fs' "room_count" (.int 1) → At fs' "rooms_left" (.ref r) → H' r = some (.lst []) →
    At fs' "borders" (.ref b) → H' b = some (.lst [.ref c]) → H' c = some (.lst []) → H' d = some (.dK kvs) → (∀ k : Nat, k < S.length → valV kvs (.inl (k : Int)) = some (.int 0)) → Q .non H'
section
variable {K : PySem.W.Frag} {σ : L2.St} {H : Hp} {te tl ta tb tv : TE} {tt : TT} {g : TG} {D : Ends} {tz tu : TS} {C a dx l : Addr} {f : Str} {v y : V} {vs : List Nat} {wi : L2.TI} {fs : List (Str × V)} {ds : List PyData}
theorem q_fld (h : Ev tv σ H y) (hx : ∀ H1, Ex H H1 → Ev ta σ H1 (.ref a)) (ha : H a = some (.ins C dx fs)) (cl : Cls K C) (n : NoAttr K C f) (hl : fs.length < 1000) (k : ∀ H1, Ex H H1 → tz D σ (upd H1 a (.ins C dx (putF f y fs)))) : tSeq (sFld K ta tv f) tz D σ H :=
  h H (Ex.refl _) _ fun H1 e1 => hx H1 e1 H1 (Ex.refl _) _ fun H2 e2 => ⟨a, C, dx, fs, rfl, (e1.trans e2) _ _ ha, cl, n, hl, k H2 (e1.trans e2)⟩
/-- self.f = something new -/
theorem q_fldQ {i : Nat} {R : V → Hp → Prop} (h : ∀ Q : VK, (∀ v H1, Ex H H1 → R v H1 → Q v H1) → tv σ H Q) (hi : σ[i]? = some (some (.ref a))) (ha : H a = some (.ins C dx fs)) (cl : Cls K C) (n : NoAttr K C f) (hl : fs.length < 1000) (k : ∀ v H1, Ex H H1 → R v H1 → tz D σ (upd H1 a (.ins C dx (putF f v fs)))) : tSeq (sFld K (tVar i) tv f) tz D σ H :=
  h _ fun v H1 e1 r => ⟨_, hi, a, C, dx, fs, rfl, e1 _ _ ha, cl, n, hl, k v H1 e1 r⟩
/-- a for whose turns only make new things -/
theorem q_forX {α : Type} {enc : α → PyData} {es : List α} (h : EvI wi σ H (es.map enc)) (Pv : Nat → L2.St → Prop) (h0 : Pv 0 σ)
    (hs : ∀ H1, Ex H H1 → ∀ i e x σ' H', es[i]? = some e → Pv i σ' → Ex H1 H' → TD1 H' x (enc e) → g x σ' H' fun σ2 H2 => tu { D with nx := fun σ3 H3 => Pv (i + 1) σ3 ∧ Ex H1 H3, ct := fun σ3 H3 => Pv (i + 1) σ3 ∧ Ex H1 H3, bk := tz D } σ2 H2)
    (hd : ∀ σ' H', Pv es.length σ' → Ex H H' → tz D σ' H') : tSeq (tFor wi g tu) tz D σ H := h H (Ex.refl H) _ fun J H1 e dw => by
  obtain ⟨G, Y, w, hG, hY⟩ := dw.ex
  rw [List.length_map] at w hY
  refine for_it w (g := g) (tb := tu) (D := { D with nx := tz D }) (σ := σ) (H := H1) (fun i σ' H' => Pv i σ' ∧ Ex H1 H') ⟨h0, Ex.refl _⟩ (fun _ _ H' _ p => hG H' p.2) (fun i x σ' H' H'' hi p y => ?_) fun σ' H' p => hd σ' H' p.1 (e.trans p.2)
  obtain ⟨e3, d, hd', t⟩ := hY i x H' H'' hi p.2 y
  rw [List.getElem?_map] at hd'
  obtain ⟨e', he, rfl⟩ := Option.map_eq_some_iff.mp hd'
  exact hs H1 e i e' x σ' H'' he p.1 (p.2.trans e3) t
/-- a for over a told list that the turns leave alone -/
theorem q_forL {te : TE} {fl : Addr} {xs : List V} (h : Ev te σ H (.ref fl)) (hl : H fl = some (.lst xs)) (Pv : Nat → L2.St → Hp → Prop) (h0 : ∀ H1, Ex H H1 → Pv 0 σ H1) (hG : ∀ i σ' H', Pv i σ' H' → H' fl = some (.lst xs))
    (hs : ∀ i x σ' H', xs[i]? = some x → Pv i σ' H' → g x σ' H' fun σ2 H2 => tu { D with nx := Pv (i + 1), ct := Pv (i + 1), bk := tz D } σ2 H2) (hd : ∀ σ' H', Pv xs.length σ' H' → tz D σ' H') : tSeq (tFor (iList K te) g tu) tz D σ H :=
  h H (Ex.refl H) _ fun H1 e1 => ⟨fl, rfl, ⟨_, SqL.of (e1 _ _ hl)⟩, by
    refine for_it (walk_list (K := K) (a := fl) (xs := xs)) (g := g) (tb := tu) (D := { D with nx := tz D }) (σ := σ) (H := H1) Pv (h0 H1 e1) (fun i σ' H' _ p => SqL.of (hG i σ' H' p)) (fun i x σ' H' H'' hi p y => ?_) hd
    obtain ⟨rfl, hx⟩ := y
    exact hs i x σ' _ hx p⟩
/-- a comprehension of one new empty list for each turn of a range -/
theorem go_lcR {ta : TA} {m j : Nat} (h : EvA ta σ H [.int (m : Int)]) (hz : m ≤ 40000) (hw : ∀ x, wipe ((wipe σ vs).set j (some x)) vs = wipe σ vs)
    {Q : VK} (q : ∀ l H1, H l = none → Ex H H1 → Empties H1 l m → Q (.ref l) H1) : tLc (iRng1 ta) (gName j) tYes (tLst tNil) vs σ H Q := by
  refine h H (Ex.refl H) _ fun H1 e1 => ⟨m, rfl, by omega, by omega, fun Dl hD => ?_⟩
  rw [Int.toNat_natCast]
  refine lc_it (walk_range (lo := 0) (n := m)) (fun i H' => Ex H1 H' ∧ ∃ es : List Addr, H' Dl = some (.lst (es.map V.ref)) ∧ es.length = i ∧ ∀ e ∈ es, e ≠ Dl ∧ H' e = some (.lst [])) ⟨Ex.new hD, [], upd_same, rfl, fun _ m => nomatch m⟩ (fun _ _ _ _ => trivial) (fun i x H' H'' hi c y => ?_) fun H' c => ?_
  · obtain ⟨rfl, _⟩ := y
    obtain ⟨c1, es, c2, c3, c4⟩ := c
    refine ⟨hw x, yes_ite ⟨Nat.zero_le _, fun e he => ⟨es.map V.ref, ?_, sz_lt (by rw [List.length_map]; omega), Ex.mut (c1.trans (Ex.new he)) hD, es ++ [e], ?_, by rw [List.length_append, c3]; rfl, fun b hb => ?_⟩⟩⟩
    · exact Ex.new he _ _ c2
    · rw [List.map_append]
      exact upd_same
    · have n : e ≠ Dl := fun z => by
        rw [z, c2] at he
        cases he
      rcases List.mem_append.mp hb with m | m
      · obtain ⟨nb, hb'⟩ := c4 b m
        refine ⟨nb, ?_⟩
        rw [upd_ne nb]
        exact Ex.new he _ _ hb'
      · rw [List.mem_singleton.mp m]
        refine ⟨n, ?_⟩
        rw [upd_ne n]
        exact upd_same
  · obtain ⟨c1, es, c2, c3, c4⟩ := c
    exact q Dl H' (fresh_back e1 hD) (e1.trans c1) ⟨es, c2, c3, fun e he => (c4 e he).2⟩
end
/-- the rooms being settled -/
structure Mid (C a dx d : Addr) (H : Hp) (fs : List (Str × V)) (Hc : Hp) (fsc : List (Str × V)) (n : Nat) : Prop where
  at_ : Hc a = some (.ins C dx fsc)
  keep : ∀ l o, l ≠ a → l ≠ d → H l = some o → Hc l = some o
  look : ∀ f, settled f = false → fsc.lookup f = fs.lookup f
  len : fsc.length ≤ n
section
variable {C a dx d : Addr} {H Hc H' : Hp} {fs fsc : List (Str × V)} {n : Nat} {f : Str} {v : V}
theorem Mid.ex (m : Mid C a dx d H fs Hc fsc n) (e : Ex Hc H') : Mid C a dx d H fs H' fsc n := ⟨e _ _ m.at_, fun l o n1 n2 h => e _ _ (m.keep l o n1 n2 h), m.look, m.len⟩
theorem Mid.put (m : Mid C a dx d H fs Hc fsc n) (s : settled f = true) : Mid C a dx d H fs (upd Hc a (.ins C dx (putF f v fsc))) (putF f v fsc) (n + 1) := by
  refine ⟨upd_same, fun l o n1 n2 h => ?_, fun g hg => ?_, Nat.le_trans (length_putF f v fsc) (Nat.succ_le_succ m.len)⟩
  · rw [upd_ne n1]
    exact m.keep l o n1 n2 h
  · have ne : g ≠ f := by
      rintro rfl
      rw [s] at hg
      cases hg
    rw [look_ne ne]
    exact m.look g hg
theorem Mid.has (m : Mid C a dx d H fs Hc fsc n) (h : At fs f v) (s : settled f = false) : Has Hc C a f v := ⟨dx, fsc, m.at_, (m.look f s).trans h⟩
theorem at_of {l : Addr} (ha : H a = some (.ins C dx fs)) (h : Has H C a f (.ref l)) : At fs f (.ref l) := by
  obtain ⟨dx', fs', h1, h2⟩ := h
  rw [ha] at h1
  cases h1
  exact h2
end
theorem td_nats {H : Hp} (ks : List Nat) : TDs H (ks.map fun k : Nat => V.int (k : Int)) (ks.map fun k : Nat => PyData.int (k : Int)) := by
  have z := TDs.ints (H := H) (ks.map fun k : Nat => (k : Int))
  rw [List.map_map, List.map_map] at z
  exact z
section
variable {P : Program} {w : World} {K : PySem.W.Frag} {mg : Str → Option Value} {base : Heap} {CW : Addr}
abbrev nmSe : List Str := ["self", "outer", "first", "walk", "room", "half", "_"]
theorem scSe : FnScope nmSe ["self"] (defScope sSe) := ⟨rfl, rfl, rfl, by decide +kernel, rfl, by decide +kernel, by decide +kernel⟩
theorem ok_se {f : Addr} {fd : FuncData} (F : Fun K "_settle_rooms" "Web._settle_rooms" sSe f fd) (T : TN mg) (W : WC K mg CW) (MP : Mt P w K mg base 2 CW "room_of_point" (spRP CW)) : FnOk P w K mg base CX0 3 f fd ["self"] (spSe CW) := by
  refine F.ok scSe (fun vs H Q E h => ?_) (fun cdv A' outer s0 H vs Q E hr h => ?_)
  · obtain ⟨a, dx, d, fl, le, sp, fs, xs, S, rfl, _⟩ := h
    rfl
  · obtain ⟨a, dx, d, fl, le, sp, fs, xs, S, rfl, ha, hfs, f1, ⟨ks, hk1, hk2⟩, f2, ⟨les, m1, m2, m3⟩, f3, hsp, tS, ⟨lw, hw1, hw2⟩, ⟨lwa, hwa1, hwa2⟩, ⟨ltu, htu1, htu2⟩, ⟨lru, hru1, hru2⟩, f4, hd, f5, hz, q⟩ := h
    refine ⟨_, (pss_cons (ps_set (i := 1) scSe.nd rfl (Or.inl rfl) pe_dnewK)
      (pss_cons (ps_for PassesOwn.never rfl (pi_list (pe_fld (pv 0) rfl)) (pg_name (i := 2) scSe.nd rfl (Or.inl rfl))
        (pss_one (ps_if (pt_truth (pe_ix ix_list (pe_fld (pv 0) rfl) (pv 2) (fun _ _ => rfl)) (fun _ => rfl)) pss_never pss_nil)))
      (pss_cons (ps_fld (pv 0) (pe_op op_rep (pe_lst (pa_cons (pe_int) pa_nil)) (pe_callB call_len_seq (by rfl) T.len PySem.boot_len (pa_cons (pe_fld (pv 0) rfl) pa_nil))) rfl)
      (pss_cons (ps_fld (pv 0) pe_int rfl)
      (pss_cons (ps_for PassesOwn.never rfl (pi_range1 (by rfl) T.range (pa_cons (pe_callB call_len_seq (by rfl) T.len PySem.boot_len (pa_cons (pe_fld (pv 0) rfl) pa_nil)) pa_nil)) (pg_name (i := 3) scSe.nd rfl (Or.inl rfl))
        pss_never)
      (pss_cons (ps_for PassesOwn.never rfl (pi_list (pe_fld (pv 0) rfl)) (pg_name (i := 2) scSe.nd rfl (Or.inl rfl))
        (pss_cons (ps_set (i := 4) scSe.nd rfl (Or.inl rfl) (pe_mt MP hr (by decide) (pv 0) (pa_cons (pe_ix ix_list (pe_fld (pv 0) rfl) (pv 2) (fun _ _ => rfl)) pa_nil)))
        (pss_one (ps_if (pt_truth (pe_ix ix_list (pe_fld (pv 0) rfl) (pv 2) (fun _ _ => rfl)) (fun _ => rfl)) pss_never (pss_one (ps_dput (hu_of hr) (pe_fld (pv 0) rfl) (pv 2) (pv 4) rfl))))))
      (pss_cons (ps_fld (pv 0) (pe_lc (own := [("walk", 3)]) (g := gName 3) (by rfl) scSe.nd (pi_list (pe_fld (pv 0) rfl))
        (blkOk_by (own := [("walk", 3)]) (N := nmSe) (sc := defScope sSe) (by decide +kernel))
        (fun _ _ _ _ _ => by exact (pg_name (i := 3) scSe.nd rfl (Or.inl rfl))) (fun _ _ _ _ _ => pts_nil)
        (te := tNo) (fun _ _ _ _ _ => by exact pe_never)) rfl)
      (pss_cons (ps_fld (pv 0) (pe_lc (own := [("_", 6)]) (g := gName 6) (by rfl) scSe.nd (pi_range1 (by rfl) T.range (pa_cons (pe_fld (pv 0) rfl) pa_nil))
        (blkOk_by (own := [("_", 6)]) (N := nmSe) (sc := defScope sSe) (by decide +kernel))
        (fun _ _ _ _ _ => by exact (pg_name (i := 6) scSe.nd rfl (Or.inl rfl))) (fun _ _ _ _ _ => pts_nil)
        (te := (tLst tNil)) (fun _ _ _ _ _ => by exact (pe_lst pa_nil))) rfl)
      (pss_one (ps_for PassesOwn.never rfl (pi_range1 (by rfl) T.range (pa_cons (pe_callB call_len_seq (by rfl) T.len PySem.boot_len (pa_cons (pe_fld (pv 0) rfl) pa_nil)) pa_nil)) (pg_name (i := 5) scSe.nd rfl (Or.inl rfl))
        pss_never)))))))))), ?_⟩
    have klt : ∀ k ∈ ks, k < S.length := fun k hk => List.mem_range.mp (hk2.mem_iff.mp hk)
    -- what is no web and no dict
    have nl : ∀ {l : Addr} {ys : List V}, H l = some (.lst ys) → l ≠ a ∧ l ≠ d := fun {l ys} hl => by
      constructor
      · rintro rfl
        rw [ha] at hl
        cases hl
      · rintro rfl
        rw [hd] at hl
        cases hl
    have nad : a ≠ d := by
      rintro rfl
      rw [ha] at hd
      cases hd
    have mid0 : Mid CW a dx d H fs H fs 900 := ⟨ha, fun _ _ _ _ h => h, fun _ _ => rfl, hfs⟩
    refine q_asgQ fun D0 nD0 => ?_
    have e1 := Ex.new (o := .dK []) nD0
    have mid1 := mid0.ex e1
    have d1 := e1 _ _ hd
    generalize upd H D0 (.dK []) = H1 at e1 mid1 d1 ⊢
    refine q_forX (enc := fun k : Nat => .int (k : Int)) (es := ks) (ei_has (ev_var (i := 0) rfl) (mid1.has f1 (by decide +kernel)) W.cl W.first_spots (mid1.keep _ _ (nl hk1).1 (nl hk1).2 hk1) (td_nats ks)) (fun _ σ' => ∃ u v z y t, σ' = [some (.ref a), some (.ref D0), u, v, z, y, t]) ⟨_, _, _, _, _, rfl⟩ (fun H2 e2 i k x σ' H3 hk c e3 t => ?_) fun σ' H2 c e2 => ?_
    · obtain ⟨u, v, z, y, t', rfl⟩ := c
      cases t.int
      have mid3 := mid1.ex (e2.trans e3)
      have hkn := klt k (List.mem_of_getElem? hk)
      have hek : les[k]? = some les[k] := List.getElem?_eq_getElem (by omega)
      have he0 := m3 les[k] (List.getElem_mem _)
      exact s_when (b := false) (et_is (et_truL (ev_fix (k := k) (v := .ref les[k]) (ev_var (i := 0) (σ := [some (.ref a), some (.ref D0), some (.int (k : Int)), v, z, y, t']) rfl) (mid3.has f2 (by decide +kernel)) W.cl W.leaving (mid3.keep _ _ (nl m1).1 (nl m1).2 m1) (ev_var (i := 2) rfl) (by rw [List.getElem?_map, hek]; rfl)) (mid3.keep _ _ (nl he0).1 (nl he0).2 he0)) rfl) (fun z => nomatch z) fun _ H4 e4 => ⟨⟨_, _, _, _, _, rfl⟩, e3.trans e4⟩
    obtain ⟨u2, v2, z2, y2, t2, rfl⟩ := c
    have mid2 := mid1.ex e2
    have d2 := e2 _ _ d1
    -- the rooms of the walks: none
    have fw := at_of ha hw1
    have fwa := at_of ha hwa1
    have ftu := at_of ha htu1
    have fru := at_of ha hru1
    refine q_fldQ (i := 0) (R := fun v H' => ∃ l, v = .ref l ∧ H' l = some (.lst [])) (fun Q q' => (eds_rep (d := .int 0) (n := 0) (eds_lst (da_cons (ed_int ev_c) da_nil) (by decide)) (fun H3 e3 => ev_lenF (ev_var (i := 0) rfl) ((mid2.ex e3).has fw (by decide +kernel)) W.cl W.walks ((mid2.ex e3).keep _ _ (nl hw2).1 (nl hw2).2 hw2)) (by decide)) H2 (Ex.refl _) _ fun p ys H3 np e3 hp y => q' _ H3 e3 ⟨p, rfl, by rw [y.inv0] at hp; exact hp⟩) rfl mid2.at_ W.cl W.room_at (by have := mid2.len; omega) ?_
    rintro _ H3 e3 ⟨l3, rfl, hl3⟩
    have mid3 := (mid2.ex e3).put (f := "room_at") (v := .ref l3) (by decide +kernel)
    have d3 : upd H3 a (.ins CW dx (putF "room_at" (.ref l3) fs)) d = some (.dK []) := by
      rw [upd_ne (Ne.symm nad)]
      exact e3 _ _ d2
    generalize upd H3 a (.ins CW dx (putF "room_at" (.ref l3) fs)) = H4 at mid3 d3 ⊢
    generalize putF "room_at" (.ref l3) fs = fs4 at mid3
    refine q_fldQ (i := 0) (R := fun v H' => v = .int 1) (fun Q q' => q' _ _ (Ex.refl _) rfl) rfl mid3.at_ W.cl W.room_count (by have := mid3.len; omega) ?_
    rintro _ H5 e5 rfl
    have mid5 := (mid3.ex e5).put (f := "room_count") (v := .int 1) (by decide +kernel)
    have d5 : upd H5 a (.ins CW dx (putF "room_count" (.int 1) fs4)) d = some (.dK []) := by
      rw [upd_ne (Ne.symm nad)]
      exact e5 _ _ d3
    have rc5 : At (putF "room_count" (.int 1) fs4) "room_count" (.int 1) := look_put (g := "")
    generalize upd H5 a (.ins CW dx (putF "room_count" (.int 1) fs4)) = H6 at mid5 d5 ⊢
    generalize putF "room_count" (.int 1) fs4 = fs6 at mid5 rc5
    refine q_forE (ei_rng (m := 0) (ea_cons (ev_lenF (ev_var (i := 0) rfl) (mid5.has fw (by decide +kernel)) W.cl W.walks (mid5.keep _ _ (nl hw2).1 (nl hw2).2 hw2)) ea_nil) (by decide)) fun H7 e7 => ?_
    have mid7 := mid5.ex e7
    have d7 := e7 _ _ d5
    -- the lone spots
    have hf : Ev (tFld K (tVar 0) "first_spots") [some (.ref a), some (.ref D0), u2, v2, z2, y2, t2] H7 (.ref fl) := ev_has (ev_var (i := 0) rfl) (mid7.has f1 (by decide +kernel)) W.cl W.first_spots
    refine q_forL hf (mid7.keep _ _ (nl hk1).1 (nl hk1).2 hk1) (fun i σ' H' => (∃ u v z y t, σ' = [some (.ref a), some (.ref D0), u, v, z, y, t]) ∧ Mid CW a dx d H fs H' fs6 902 ∧ ∃ kvs, H' d = some (.dK kvs) ∧ kvs.length ≤ i ∧ i ≤ 1000 ∧ ∀ k ∈ ks.take i, valV kvs (.inl (k : Int)) = some (.int 0)) (fun H8 e8 => ⟨⟨_, _, _, _, _, rfl⟩, mid7.ex e8, [], e8 _ _ d7, Nat.le_refl _, Nat.zero_le _, fun k hk => by simp at hk⟩) (fun i σ' H' p => p.2.1.keep _ _ (nl hk1).1 (nl hk1).2 hk1) (fun i x σ' H' hx c => ?_) fun σ' H9 c => ?_
    · obtain ⟨⟨u, v, z, y, t, rfl⟩, mid, kvs, hkv, hlen, hi, hall⟩ := c
      rw [List.getElem?_map] at hx
      obtain ⟨k, hk, rfl⟩ := Option.map_eq_some_iff.mp hx
      have hkn := klt k (List.mem_of_getElem? hk)
      have hek : les[k]? = some les[k] := List.getElem?_eq_getElem (by omega)
      have he0 := m3 les[k] (List.getElem_mem _)
      have hsk : (S.map c3)[k]? = some (c3 S[k]) := by rw [List.getElem?_map, List.getElem?_eq_getElem hkn]; rfl
      obtain ⟨sk, hsk1, _⟩ := tS.at hsk
      refine q_asg (v := .int 0) (fun H9 e9 Q q' => ?_) fun H9 e9 => ?_
      · have mid9 := mid.ex e9
        refine ⟨_, rfl, a, dx, fs6, rfl, mid9.at_, (mid9.look "room_of_point" (by decide +kernel)).trans f5, ?_⟩
        refine ev_fix (k := k) (v := sk) (ev_var (i := 0) (σ := [some (.ref a), some (.ref D0), some (.int (k : Int)), v, z, y, t]) rfl) (mid9.has f3 (by decide +kernel)) W.cl W.spots (mid9.keep _ _ (nl hsp).1 (nl hsp).2 hsp) (ev_var (i := 2) rfl) hsk1 H9 (Ex.refl _) _ fun H10 e10 => ?_
        have mid10 := mid9.ex e10
        exact ⟨a, sk, rfl, ⟨lru, mid10.has fru (by decide +kernel), mid10.keep _ _ (nl hru2).1 (nl hru2).2 hru2⟩, fun H' e' => q' H' (e10.trans e')⟩
      have mid9 := mid.ex e9
      refine s_if (b := false) (et_is (et_truL (ev_fix (k := k) (v := .ref les[k]) (ev_var (i := 0) (σ := [some (.ref a), some (.ref D0), some (.int (k : Int)), v, some (.int 0), y, t]) rfl) (mid9.has f2 (by decide +kernel)) W.cl W.leaving (mid9.keep _ _ (nl m1).1 (nl m1).2 m1) (ev_var (i := 2) rfl) (by rw [List.getElem?_map, hek]; rfl)) (mid9.keep _ _ (nl he0).1 (nl he0).2 he0)) rfl) (fun z => nomatch z) fun _ H10 e10 => ?_
      have mid10 := mid9.ex e10
      refine ⟨_, rfl, ?_⟩
      refine ev_has (ev_var (i := 0) (σ := [some (.ref a), some (.ref D0), some (.int (k : Int)), v, some (.int 0), y, t]) rfl) (mid10.has f4 (by decide +kernel)) W.cl W.lone_rooms H10 (Ex.refl _) _ fun H11 e11 => ⟨_, rfl, d, _, rfl, DPut.k (k := .inl (k : Int)) (((e9.trans e10).trans e11) _ _ hkv) (sz_lt (by omega)), ⟨_, _, _, _, _, rfl⟩, ?_, _, upd_same, ?_, ?_, ?_⟩
      · have mid11 := mid10.ex e11
        exact ⟨by rw [upd_ne nad]; exact mid11.at_, fun l o n1 n2 h => by rw [upd_ne n2]; exact mid11.keep l o n1 n2 h, mid11.look, mid11.len⟩
      · have := length_putK kvs (Sum.inl (k : Int) : Key) (.int 0)
        omega
      · have := List.getElem?_eq_some_iff.mp hk
        obtain ⟨h1, _⟩ := this
        have := hk2.length_eq
        rw [List.length_range] at this
        omega
      · intro j hj
        rw [valV_put]
        by_cases c : (Sum.inl (j : Int) : Key) = .inl (k : Int)
        · rw [if_pos c]
        · rw [if_neg c]
          rw [take_snoc hk] at hj
          rcases List.mem_append.mp hj with m | m
          · exact hall j m
          · rw [List.mem_singleton.mp m] at c
            exact absurd rfl c
    obtain ⟨⟨u, v, z, y, t, rfl⟩, mid9, kvs, hkv, _, _, hall⟩ := c
    rw [List.length_map, List.take_length] at hall
    have all : ∀ k : Nat, k < S.length → valV kvs (.inl (k : Int)) = some (.int 0) := fun k hk => hall k (hk2.mem_iff.mpr (List.mem_range.mpr hk))
    -- no rooms at the left
    refine q_fldQ (i := 0) (R := fun v H' => ∃ l, v = .ref l ∧ H' l = some (.lst [])) (fun Q q' => (eds_lcE (te := tNo) (tt := tYes) (vs := [3]) (g := gName 3) (ei_has (K := K) (ev_var (i := 0) (σ := [some (.ref a), some (.ref D0), u, v, z, y, t]) rfl) (mid9.has fwa (by decide +kernel)) W.cl W.walk_at (mid9.keep _ _ (nl hwa2).1 (nl hwa2).2 hwa2) .nil)) H9 (Ex.refl _) _ fun p ys H3 np e3 hp y => q' _ H3 e3 ⟨p, rfl, by rw [y.inv0] at hp; exact hp⟩) rfl mid9.at_ W.cl W.rooms_left (by have := mid9.len; omega) ?_
    rintro _ H10 e10 ⟨l10, rfl, hl10⟩
    have mid10 := (mid9.ex e10).put (f := "rooms_left") (v := .ref l10) (by decide +kernel)
    have d10 : upd H10 a (.ins CW dx (putF "rooms_left" (.ref l10) fs6)) d = some (.dK kvs) := by
      rw [upd_ne (Ne.symm nad)]
      exact e10 _ _ hkv
    have na10 : l10 ≠ a := by
      rintro rfl
      rw [e10 _ _ mid9.at_] at hl10
      cases hl10
    have l10' : upd H10 a (.ins CW dx (putF "rooms_left" (.ref l10) fs6)) l10 = some (.lst []) := by
      rw [upd_ne na10]
      exact hl10
    have rl10 : At (putF "rooms_left" (.ref l10) fs6) "rooms_left" (.ref l10) := look_put (g := "")
    have rc10 : At (putF "rooms_left" (.ref l10) fs6) "room_count" (.int 1) := (look_ne (by decide +kernel)).trans rc5
    generalize upd H10 a (.ins CW dx (putF "rooms_left" (.ref l10) fs6)) = H12 at mid10 d10 l10' ⊢
    generalize putF "rooms_left" (.ref l10) fs6 = fs7 at mid10 rl10 rc10
    -- one border
    refine q_fldQ (i := 0) (R := fun v H' => ∃ l, v = .ref l ∧ Empties H' l 1) (fun Q q' => go_lcR (m := 1) (ea_cons (ev_has (ev_var (i := 0) (σ := [some (.ref a), some (.ref D0), u, v, z, y, t]) rfl) ⟨dx, fs7, mid10.at_, rc10⟩ W.cl W.room_count) ea_nil) (by decide) (fun _ => rfl) fun l H13 _ e13 em => q' _ H13 e13 ⟨l, rfl, em⟩) rfl mid10.at_ W.cl W.borders (by have := mid10.len; omega) ?_
    rintro _ H13 e13 ⟨l13, rfl, es13, hl13, hn13, hem13⟩
    obtain ⟨c13, rfl⟩ : ∃ c, es13 = [c] := List.length_eq_one_iff.mp hn13
    have hc13 := hem13 c13 List.mem_cons_self
    have mid13 := (mid10.ex e13).put (f := "borders") (v := .ref l13) (by decide +kernel)
    have nla : ∀ {l : Addr} {ys : List V}, H13 l = some (.lst ys) → upd H13 a (.ins CW dx (putF "borders" (.ref l13) fs7)) l = some (.lst ys) := fun {l ys} hl => by
      rw [upd_ne]
      · exact hl
      · rintro rfl
        rw [e13 _ _ mid10.at_] at hl
        cases hl
    have d13 : upd H13 a (.ins CW dx (putF "borders" (.ref l13) fs7)) d = some (.dK kvs) := by
      rw [upd_ne (Ne.symm nad)]
      exact e13 _ _ d10
    have lr13 := nla (e13 _ _ l10')
    have lb13 := nla hl13
    have lc13 := nla hc13
    have rl13 : At (putF "borders" (.ref l13) fs7) "rooms_left" (.ref l10) := (look_ne (by decide +kernel)).trans rl10
    have rc13 : At (putF "borders" (.ref l13) fs7) "room_count" (.int 1) := (look_ne (by decide +kernel)).trans rc10
    have bo13 : At (putF "borders" (.ref l13) fs7) "borders" (.ref l13) := look_put (g := "")
    generalize upd H13 a (.ins CW dx (putF "borders" (.ref l13) fs7)) = H14 at mid13 d13 lr13 lb13 lc13 ⊢
    generalize putF "borders" (.ref l13) fs7 = fs8 at mid13 rl13 rc13 bo13
    refine s_forE (ei_rng (m := 0) (ea_cons (ev_lenF (ev_var (i := 0) (σ := [some (.ref a), some (.ref D0), u, v, z, y, t]) rfl) (mid13.has ftu (by decide +kernel)) W.cl W.turns (mid13.keep _ _ (nl htu2).1 (nl htu2).2 htu2)) ea_nil) (by decide)) fun H15 e15 => ?_
    exact q H15 fs8 l10 l13 c13 kvs (fun l o n1 n2 h => e15 _ _ (mid13.keep l o n1 n2 h)) (e15 _ _ mid13.at_) mid13.look rc13 rl13 (e15 _ _ lr13) bo13 (e15 _ _ lb13) (e15 _ _ lc13) (e15 _ _ d13) all
end
end Q
set_option Elab.async false
set_option linter.all false
set_option maxRecDepth 100000
set_option maxHeartbeats 4000000
/-! the making of a web without sides -/
namespace Q
open PySem L2 PySem.Spec PyProof.Rows PySem.Calls PySem.OwnX
open Evl
abbrev sWI : Stmt := inClass (top 50) 0
/-- an attribute as one of several targets -/
def gFld (K : PySem.W.Frag) (to : TE) (f : Str) : TG := fun v σ H Q => to σ H fun x H1 => ∃ a C dx fs, x = .ref a ∧ H1 a = some (.ins C dx fs) ∧ Cls K C ∧ NoAttr K C f ∧ fs.length < 1000 ∧ Q σ (upd H1 a (.ins C dx (putF f v fs)))
theorem pg_fld {X : Cx} {o : Expr} {f : Str} {pos : Pos} {to : TE} (ho : PE X o to) : PG X (.Attribute o f pos) (gFld X.K to f) := by
  refine ⟨fun pins s σ H v u Q I r h => ?_⟩
  refine PySem.W.kas_attr (thn (ho.run pins s σ H _ I h) fun ov s1 ⟨x, H1, I1, rx, a, C, dx, fs, ex, ea, c, n, l, q⟩ => ?_)
  subst ex
  obtain rfl : ov = Value.ref a := rx
  exact setattr_ok I1 ea c n l r fun s3 I3 => ⟨σ, _, I3, q⟩
/-- lists, tuples and what a says stay -/
structure Gr (C a : Addr) (H H' : Hp) : Prop where
  ins : ∃ dx fs fs', H a = some (.ins C dx fs) ∧ H' a = some (.ins C dx fs') ∧ ∀ f v, fs.lookup f = some v → fs'.lookup f = some v
  lst : ∀ l xs, H l = some (.lst xs) → H' l = some (.lst xs)
  tup : ∀ l xs, H l = some (.tup xs) → H' l = some (.tup xs)
section
variable {C a l : Addr} {H H' H0 H1 Hc : Hp} {f : Str} {v : V} {n : Nat} {fs : List (Str × V)} {dx : Addr} {ns : List Str}
theorem Gr.trans (g : Gr C a H H1) (h : Gr C a H1 H') : Gr C a H H' := by
  obtain ⟨dx, fs, fs', g1, g2, g3⟩ := g.ins
  obtain ⟨dx2, fs2, fs2', h1, h2, h3⟩ := h.ins
  rw [g2] at h1
  cases h1
  exact ⟨⟨dx, fs, fs2', g1, h2, fun f v z => h3 f v (g3 f v z)⟩, fun l xs z => h.lst l xs (g.lst l xs z), fun l xs z => h.tup l xs (g.tup l xs z)⟩
theorem Has.gr (h : Has H C a f v) (g : Gr C a H H') : Has H' C a f v := by
  obtain ⟨dx, fs, h1, h2⟩ := h
  obtain ⟨dx2, fs2, fs2', g1, g2, g3⟩ := g.ins
  rw [h1] at g1
  cases g1
  exact ⟨_, _, g2, g3 f v h2⟩
theorem HasE.gr (h : HasE H C a f) (g : Gr C a H H') : HasE H' C a f := by
  obtain ⟨l, h1, h2⟩ := h
  exact ⟨l, h1.gr g, g.lst _ _ h2⟩
theorem Empties.gr (h : Empties H l n) (g : Gr C a H H') : Empties H' l n := by
  obtain ⟨es, h1, h2, h3⟩ := h
  exact ⟨es, g.lst _ _ h1, h2, fun e m => g.lst _ _ (h3 e m)⟩
theorem Firsts.gr (h : Firsts H l n) (g : Gr C a H H') : Firsts H' l n := by
  obtain ⟨es, h1, h2⟩ := h
  exact ⟨es, g.lst _ _ h1, h2⟩
/-- f of a holds a list of told data -/
def HasD (H : Hp) (C a : Addr) (f : Str) (ds : List PyData) : Prop := ∃ l xs, Has H C a f (.ref l) ∧ H l = some (.lst xs) ∧ TDs H xs ds
theorem HasD.gr {ds : List PyData} (h : HasD H C a f ds) (g : Gr C a H H') : HasD H' C a f ds := by
  obtain ⟨l, xs, h1, h2, h3⟩ := h
  exact ⟨l, xs, h1.gr g, g.lst _ _ h2, h3.by g.tup⟩
theorem HasD.mono {ds : List PyData} (h : HasD H C a f ds) (e : Ex H H') : HasD H' C a f ds := by
  obtain ⟨l, xs, h1, h2, h3⟩ := h
  exact ⟨l, xs, h1.mono e, e _ _ h2, h3.mono e⟩
/-- .. n empty lists -/
def HasN (H : Hp) (C a : Addr) (f : Str) (n : Nat) : Prop := ∃ l, Has H C a f (.ref l) ∧ Empties H l n
theorem HasN.gr (h : HasN H C a f n) (g : Gr C a H H') : HasN H' C a f n := by
  obtain ⟨l, h1, h2⟩ := h
  exact ⟨l, h1.gr g, h2.gr g⟩
theorem HasN.mono (h : HasN H C a f n) (e : Ex H H') : HasN H' C a f n := by
  obtain ⟨l, h1, h2⟩ := h
  exact ⟨l, h1.mono e, h2.mono e⟩
def HasF (H : Hp) (C a : Addr) (f : Str) (n : Nat) : Prop := ∃ l, Has H C a f (.ref l) ∧ Firsts H l n
theorem HasF.gr (h : HasF H C a f n) (g : Gr C a H H') : HasF H' C a f n := by
  obtain ⟨l, h1, h2⟩ := h
  exact ⟨l, h1.gr g, h2.gr g⟩
/-- the web being made: the attributes ns are written -/
structure Wip (C a dx : Addr) (H0 Hc : Hp) (fs : List (Str × V)) (ns : List Str) : Prop where
  at_ : Hc a = some (.ins C dx fs)
  keep : ∀ l o, l ≠ a → H0 l = some o → Hc l = some o
  len : fs.length ≤ ns.length
  no : ∀ m, m ∉ ns → fs.lookup m = none
theorem Wip.ex (p : Wip C a dx H0 Hc fs ns) (e : Ex Hc H') : Wip C a dx H0 H' fs ns := ⟨e _ _ p.at_, fun l o n h => e _ _ (p.keep l o n h), p.len, p.no⟩
theorem Wip.gr (p : Wip C a dx H0 Hc fs ns) (e : Ex Hc H') : Gr C a Hc H' := ⟨⟨_, _, _, p.at_, e _ _ p.at_, fun _ _ z => z⟩, fun _ _ z => e _ _ z, fun _ _ z => e _ _ z⟩
theorem Wip.put (p : Wip C a dx H0 Hc fs ns) (n : f ∉ ns) : Wip C a dx H0 (upd Hc a (.ins C dx (putF f v fs))) (putF f v fs) (f :: ns) ∧ Gr C a Hc (upd Hc a (.ins C dx (putF f v fs))) ∧ Has (upd Hc a (.ins C dx (putF f v fs))) C a f v := by
  refine ⟨⟨upd_same, fun l o ne h => ?_, Nat.le_trans (length_putF f v fs) (Nat.succ_le_succ p.len), fun m hm => ?_⟩, ⟨⟨_, _, _, p.at_, upd_same, fun g w z => ?_⟩, fun l xs z => ?_, fun l xs z => ?_⟩, ⟨_, _, upd_same, look_put (g := "")⟩⟩
  · rw [upd_ne ne]
    exact p.keep l o ne h
  · rw [look_ne (fun z => hm (List.mem_cons.mpr (.inl z)))]
    exact p.no m fun z => hm (List.mem_cons.mpr (.inr z))
  · rw [look_ne]
    · exact z
    · rintro rfl
      rw [p.no g n] at z
      cases z
  · rw [upd_ne]
    · exact z
    · rintro rfl
      rw [p.at_] at z
      cases z
  · rw [upd_ne]
    · exact z
    · rintro rfl
      rw [p.at_] at z
      cases z
end
section
variable {K : PySem.W.Frag} {σ : L2.St} {H H0 : Hp} {te tv : TE} {D : Ends} {tz : TS} {C a dx : Addr} {f f2 f3 : Str} {fs : List (Str × V)} {ns : List Str} {g : TGs} {G : TG}
/-- self.f = something new, the web being made -/
theorem q_put {i : Nat} {R : V → Hp → Prop} (p : Wip C a dx H0 H fs ns) (h : ∀ Q : VK, (∀ v H1, Ex H H1 → R v H1 → Q v H1) → tv σ H Q) (hi : σ[i]? = some (some (.ref a))) (cl : Cls K C) (na : NoAttr K C f) (n : f ∉ ns) (hz : ns.length < 1000)
    (k : ∀ v H1 H2 fs2, Ex H H1 → R v H1 → Wip C a dx H0 H2 fs2 (f :: ns) → Gr C a H H2 → Gr C a H1 H2 → Has H2 C a f v → tz D σ H2) : tSeq (sFld K (tVar i) tv f) tz D σ H := by
  refine q_fldQ (i := i) (R := R) h hi p.at_ cl na (Nat.lt_of_le_of_lt p.len hz) fun v H1 e1 r => ?_
  obtain ⟨q1, q2, q3⟩ := (p.ex e1).put (v := v) n
  exact k v H1 _ _ e1 r q1 ((p.gr e1).trans q2) q2 q3
theorem q_putK {i : Nat} {R : V → Hp → Prop} (p : Wip C a dx H0 H fs ns) (h : ∀ Q : VK, (∀ v H1, Ex H H1 → R v H1 → Q v H1) → tv σ H Q) (hi : σ[i]? = some (some (.ref a))) (cl : Cls K C) (na : NoAttr K C f) (n : f ∉ ns) (hz : ns.length < 1000)
    (k : ∀ v H1 H2 fs2, Ex H H1 → R v H1 → Wip C a dx H0 H2 fs2 (f :: ns) → Gr C a H H2 → (∀ l o, l ≠ a → H1 l = some o → H2 l = some o) → Has H2 C a f v → tz D σ H2) : tSeq (sFld K (tVar i) tv f) tz D σ H := by
  refine q_fldQ (i := i) (R := R) h hi p.at_ cl na (Nat.lt_of_le_of_lt p.len hz) fun v H1 e1 r => ?_
  obtain ⟨q1, q2, q3⟩ := (p.ex e1).put (v := v) n
  exact k v H1 _ _ e1 r q1 ((p.gr e1).trans q2) (fun l o ne h => by rw [upd_ne ne]; exact h) q3
theorem ei_hasE (h : Ev te σ H (.ref a)) (hv : HasE H C a f) (cl : Cls K C) (na : NoAttr K C f) : EvI (iList K (tFld K te f)) σ H [] := by
  obtain ⟨l, h1, h2⟩ := hv
  exact ei_has h h1 cl na h2 .nil
theorem numD_steps' (c : Int × Int → PyData) (S : List (Int × Int)) : numD (S.map c) = ((List.range S.length).zip S).map fun n : Nat × (Int × Int) => PyData.tuple [.int (n.1 : Int), c n.2] := numD_steps 0 S c
theorem go_gf {i : Nat} {r : List V} {v : V} {u : TGs} {Q : L2.St → Hp → Prop} (p : Wip C a dx H0 H fs ns) (hi : σ[i]? = some (some (.ref a))) (cl : Cls K C) (na : NoAttr K C f) (n : f ∉ ns) (hz : ns.length < 1000)
    (k : ∀ H2 fs2, Wip C a dx H0 H2 fs2 (f :: ns) → Gr C a H H2 → Has H2 C a f v → u r σ H2 Q) : gCons (gFld K (tVar i) f) u (v :: r) σ H Q := by
  obtain ⟨q1, q2, q3⟩ := p.put (v := v) n
  exact ⟨v, r, rfl, _, hi, a, C, dx, fs, rfl, p.at_, cl, na, Nat.lt_of_le_of_lt p.len hz, k _ _ q1 q2 q3⟩
end
theorem settled_no {fs : List (Str × V)} {ns : List Str} {f : Str} {v : V} (p : ∀ m, m ∉ ns → fs.lookup m = none) (n : ∀ m ∈ (["room_at", "room_count", "rooms_left", "borders"] : List Str), m ∉ ns) (h : fs.lookup f = some v) : settled f = false := by
  refine Bool.eq_false_iff.mpr fun c => ?_
  have m : f ∈ (["room_at", "room_count", "rooms_left", "borders"] : List Str) := by
    unfold settled at c
    simp only [Bool.or_eq_true, decide_eq_true_eq] at c
    rcases c with rfl | rfl | rfl | rfl
    · exact .head _
    · exact .tail _ (.head _)
    · exact .tail _ (.tail _ (.head _))
    · exact .tail _ (.tail _ (.tail _ (.head _)))
  rw [p f (n f m)] at h
  cases h
/-- a web of lone spots -/
structure LoneW (C : Addr) (H : Hp) (a : Addr) (S : List (Int × Int)) : Prop where
  spots : HasD H C a "spots" (S.map c3)
  leaving : HasN H C a "leaving" S.length
  lone : ∃ d kvs, Has H C a "lone_rooms" (.ref d) ∧ H d = some (.dK kvs) ∧ ∀ k : Nat, k < S.length → valV kvs (.inl (k : Int)) = some (.int 0)
  count : Has H C a "room_count" (.int 1)
  borders : HasN H C a "borders" 1
  ties : HasE H C a "ties"
  turns : HasE H C a "turns"
  rooms_left : HasE H C a "rooms_left"
  covering : HasE H C a "covering"
  rulers : HasE H C a "rulers"
  chains : HasE H C a "chains"
  walks : HasE H C a "walks"
  lacks : Lacks H C a "room_around"
theorem LoneW.mono {C : Addr} {H H' : Hp} {a : Addr} {S : List (Int × Int)} (w : LoneW C H a S) (e : Ex H H') : LoneW C H' a S :=
  ⟨w.spots.mono e, w.leaving.mono e, let ⟨d, kvs, h1, h2, h3⟩ := w.lone; ⟨d, kvs, h1.mono e, e _ _ h2, h3⟩, w.count.mono e, w.borders.mono e, w.ties.mono e, w.turns.mono e, w.rooms_left.mono e, w.covering.mono e, w.rulers.mono e, w.chains.mono e, w.walks.mono e, w.lacks.mono e⟩
def spWI (C : Addr) : Sp := fun vs H Q _ => ∃ (a dx sd pt : Addr) (xs : List V) (ps : List (Int × Int)), vs = [.ref a, .ref sd, .ref pt] ∧ H a = some (.ins C dx []) ∧ H sd = some (.lst []) ∧ H pt = some (.lst xs) ∧ TDs H xs (ps.map c3) ∧ PsB ps ∧
  ∀ S H', (∀ l o, l ≠ a → H l = some o → H' l = some o) → Spots ps S → LoneW C H' a S → Q .non H'
section
variable {P : Program} {w : World} {K : PySem.W.Frag} {mg : Str → Option Value} {base : Heap} {CW : Addr}
abbrev nmWI : List Str := ["self", "sides", "points", "chain", "left", "right", "index", "point", "tie"]
theorem scWI : FnScope nmWI ["self", "sides", "points"] (defScope sWI) := ⟨rfl, rfl, rfl, by decide +kernel, rfl, by decide +kernel, by decide +kernel⟩
theorem ok_wi {f : Addr} {fd : FuncData} (F : Fun K "__init__" "Web.__init__" sWI f fd) (T : TN mg) (T2 : TN2 mg) (W : WC K mg CW) (CC : Cl P w K mg base 3 "cut" spCut) (CL : Cl P w K mg base 1 "_linked" spLk) (CK : Cl P w K mg base 1 "_walked" spLk)
    (MT : Mt P w K mg base 4 CW "_turned" (spTd CW)) (MG : Mt P w K mg base 1 CW "_gathered" (spGa CW)) (MF : Mt P w K mg base 1 CW "_followed" (spFo CW)) (M1 : Mt P w K mg base 2 CW "_first_spots" (spFS1 CW)) (MS : Mt P w K mg base 3 CW "_settle_rooms" (spSe CW)) :
    FnOk P w K mg base CX0 5 f fd ["self", "sides", "points"] (spWI CW) := by
  refine F.ok scWI (fun vs H Q E h => ?_) (fun cdv A' outer s0 H vs Q E hr h => ?_)
  · obtain ⟨a, dx, sd, pt, xs, ps, rfl, _⟩ := h
    rfl
  · obtain ⟨a, dx, sd, pt, xs, ps, rfl, ha, hsd, hpt, tp, pb, q⟩ := h
    refine ⟨_, (pss_cons (ps_asg (pe_cl CC hr (by decide) (by rfl) (pa_cons (pv 1) (pa_cons (pv 2) pa_nil))) (pg_tup (by rfl) (pgs_cons (pg_fld (pv 0)) (pgs_cons (pg_fld (pv 0)) (pgs_cons (pg_fld (pv 0)) pgs_nil)))))
      (pss_cons (ps_fld (pv 0) (pe_lc (own := [("chain", 3)]) (g := gName 3) (by rfl) scWI.nd (pi_list (pe_fld (pv 0) rfl))
        (blkOk_by (own := [("chain", 3)]) (N := nmWI) (sc := defScope sWI) (by decide +kernel))
        (fun _ _ _ _ _ => by exact (pg_name (i := 3) scWI.nd rfl (Or.inl rfl))) (fun _ _ _ _ _ => pts_nil)
        (te := tNo) (fun _ _ _ _ _ => by exact pe_never)) rfl)
      (pss_cons (ps_fld (pv 0) (pe_lc (own := [("left", 4), ("right", 5)]) (g := gTup K 2 (gCons (gName 4) (gCons (gName 5) gNil))) (by rfl) scWI.nd (pi_list (pe_fld (pv 0) rfl))
        (blkOk_by (own := [("left", 4), ("right", 5)]) (N := nmWI) (sc := defScope sWI) (by decide +kernel))
        (fun _ _ _ _ _ => by exact (pg_tup (by rfl) (pgs_cons (pg_name (i := 4) scWI.nd rfl (Or.inl rfl)) (pgs_cons (pg_name (i := 5) scWI.nd rfl (Or.inl rfl)) pgs_nil)))) (fun _ _ _ _ _ => pts_nil)
        (te := tNo) (fun _ _ _ _ _ => by exact pe_never)) rfl)
      (pss_cons (ps_asg (pe_cl CL hr (by decide) (by rfl) (pa_cons (pe_fld (pv 0) rfl) pa_nil)) (pg_tup (by rfl) (pgs_cons (pg_fld (pv 0)) (pgs_cons (pg_fld (pv 0)) pgs_nil))))
      (pss_cons (ps_fld (pv 0) (DCT.pe_dcS (S := DCT.stoT) (o0 := .dT []) (own := [("index", 6), ("point", 7)]) (g := gTup K 2 (gCons (gName 6) (gCons (gName 7) gNil))) (by rfl) scWI.nd (pi_enum (by rfl) T2.enum (pa_cons (pe_fld (pv 0) rfl) pa_nil)) (blkOk_by (own := [("index", 6), ("point", 7)]) (N := nmWI) (sc := defScope sWI) (by decide +kernel)) (fun _ _ _ _ _ => by exact (pg_tup (by rfl) (pgs_cons (pg_name (i := 6) scWI.nd rfl (Or.inl rfl)) (pgs_cons (pg_name (i := 7) scWI.nd rfl (Or.inl rfl)) pgs_nil)))) (fun _ _ _ _ _ => pts_nil) (tk := tVar 7) (fun _ _ _ _ _ => by exact (pv 7)) (tv := tVar 6) (fun _ _ _ _ _ => by exact (pv 6)) (DCT.runs_in (Nat.lt_of_le_of_lt (Nat.le_add_right _ 63) hr.units)) (fun h H hb => dt_empty h hb)) rfl)
      (pss_cons (ps_fld (pv 0) (DCT.pe_dcS (S := DCT.stoT) (o0 := .dT []) (own := [("index", 6), ("tie", 8)]) (g := gTup K 2 (gCons (gName 6) (gCons (gName 8) gNil))) (by rfl) scWI.nd (pi_enum (by rfl) T2.enum (pa_cons (pe_fld (pv 0) rfl) pa_nil)) (blkOk_by (own := [("index", 6), ("tie", 8)]) (N := nmWI) (sc := defScope sWI) (by decide +kernel)) (fun _ _ _ _ _ => by exact (pg_tup (by rfl) (pgs_cons (pg_name (i := 6) scWI.nd rfl (Or.inl rfl)) (pgs_cons (pg_name (i := 8) scWI.nd rfl (Or.inl rfl)) pgs_nil)))) (fun _ _ _ _ _ => pts_nil) (tk := tNo) (fun _ _ _ _ _ => by exact (pe_never)) (tv := tNo) (fun _ _ _ _ _ => by exact (pe_never)) (DCT.runs_in (Nat.lt_of_le_of_lt (Nat.le_add_right _ 63) hr.units)) (fun h H hb => dt_empty h hb)) rfl)
      (pss_cons (ps_fld (pv 0) (pe_callB call_len_seq (by rfl) T.len PySem.boot_len (pa_cons (pe_fld (pv 0) rfl) pa_nil)) rfl)
      (pss_cons (ps_fld (pv 0) (pe_mt0 MT hr (by decide) (pv 0)) rfl)
      (pss_cons (ps_fld (pv 0) (pe_mt0 MG hr (by decide) (pv 0)) rfl)
      (pss_cons (ps_fld (pv 0) (pe_mt0 MF hr (by decide) (pv 0)) rfl)
      (pss_cons (ps_asg (pe_cl CK hr (by decide) (by rfl) (pa_cons (pe_fld (pv 0) rfl) pa_nil)) (pg_tup (by rfl) (pgs_cons (pg_fld (pv 0)) (pgs_cons (pg_fld (pv 0)) pgs_nil))))
      (pss_cons (ps_fld (pv 0) (pe_mt0 M1 hr (by decide) (pv 0)) rfl)
      (pss_cons (ps_fld (pv 0) pe_dnewK rfl)
      (pss_one (ps_expr (pe_mt0 MS hr (by decide) (pv 0))))))))))))))))), ?_⟩
    have p0 : Wip CW a dx H H [] [] := ⟨ha, fun _ _ _ h => h, Nat.le_refl _, fun _ _ => rfl⟩
    refine ⟨_, rfl, _, rfl, sd, pt, xs, ps, rfl, hsd, hpt, tp, pb, fun t S B c1 c2 c3' H1 e1 hS cut => ?_⟩
    have p1 := p0.ex e1
    obtain ⟨xs1, hx1, tx1⟩ := cut.spots
    obtain ⟨ys1, hy1, ty1⟩ := cut.steps
    refine ⟨t, _, rfl, SqT.of cut.tup, rfl, ?_⟩
    refine go_gf p1 rfl W.cl W.spots (by decide +kernel) (by decide) fun H2 fs2 p2 g2 h2 => ?_
    have sp : HasD H2 CW a "spots" (S.map c3) := ⟨c1, xs1, h2, g2.lst _ _ hx1, tx1.by g2.tup⟩
    have hy1 := g2.lst _ _ hy1
    have ty1 := ty1.by g2.tup
    have hc1 := g2.lst _ _ cut.chains
    refine go_gf p2 rfl W.cl W.steps (by decide +kernel) (by decide) fun H3 fs3 p3 g3 h3 => ?_
    have sp := sp.gr g3
    have st : HasD H3 CW a "steps" (S.map (stepD B)) := ⟨c2, ys1, h3, g3.lst _ _ hy1, ty1.by g3.tup⟩
    have hc1 := g3.lst _ _ hc1
    refine go_gf p3 rfl W.cl W.chains (by decide +kernel) (by decide) fun H4 fs4 p4 g4 h4 => ⟨rfl, ?_⟩
    have sp := sp.gr g4
    have st := st.gr g4
    have ch : HasE H4 CW a "chains" := ⟨c3', h4, g4.lst _ _ hc1⟩
    refine q_put (i := 0) (R := fun v H' => ∃ l, v = .ref l ∧ H' l = some (.lst [])) p4 (fun Q q' => (eds_lcE (te := tNo) (tt := tYes) (ei_hasE (ev_var (i := 0) (σ := [some (.ref a), some (.ref sd), some (.ref pt), none, none, none, none, none, none]) rfl) ch W.cl W.chains)) _ (Ex.refl _) _ fun p ys H' np e hp y => q' _ H' e ⟨p, rfl, by rw [y.inv0] at hp; exact hp⟩) rfl W.cl W.spans (by decide +kernel) (by decide) fun v5 Hv5 H5 fs5 ev5 rv5 p5 g5 gv5 h5 => ?_
    have sp := sp.gr g5
    have st := st.gr g5
    have ch := ch.gr g5
    have spn : HasE H5 CW a "spans" := by
      obtain ⟨l, rfl, hl⟩ := rv5
      exact ⟨l, h5, gv5.lst _ _ hl⟩
    refine q_put (i := 0) (R := fun v H' => ∃ l, v = .ref l ∧ H' l = some (.lst [])) p5 (fun Q q' => (eds_lcE (te := tNo) (tt := tYes) (ei_hasE (ev_var (i := 0) (σ := [some (.ref a), some (.ref sd), some (.ref pt), none, none, none, none, none, none]) rfl) spn W.cl W.spans)) _ (Ex.refl _) _ fun p ys H' np e hp y => q' _ H' e ⟨p, rfl, by rw [y.inv0] at hp; exact hp⟩) rfl W.cl W.rulers (by decide +kernel) (by decide) fun v6 Hv6 H6 fs6 ev6 rv6 p6 g6 gv6 h6 => ?_
    have sp := sp.gr g6
    have st := st.gr g6
    have ch := ch.gr g6
    have spn := spn.gr g6
    have rul : HasE H6 CW a "rulers" := by
      obtain ⟨l, rfl, hl⟩ := rv6
      exact ⟨l, h6, gv6.lst _ _ hl⟩
    obtain ⟨lch, hch1, hch2⟩ := ch
    refine ev_has (ev_var (i := 0) (σ := [some (.ref a), some (.ref sd), some (.ref pt), none, none, none, none, none, none]) rfl) hch1 W.cl W.chains H6 (Ex.refl _) _ fun H' e' => ⟨lch, rfl, e' _ _ hch2, fun t1 r1 l1 H'' e'' ht1 hr1 hl1 => ?_⟩
    have ch : HasE H6 CW a "chains" := ⟨lch, hch1, hch2⟩
    have ex1 := e'.trans e''
    have px := p6.ex ex1
    have gx := p6.gr ex1
    have sp := sp.gr gx
    have st := st.gr gx
    have ch := ch.gr gx
    have spn := spn.gr gx
    have rul := rul.gr gx
    refine ⟨t1, _, rfl, SqT.of ht1, rfl, ?_⟩
    refine go_gf px rfl W.cl W.ties (by decide +kernel) (by decide) fun H7 fs7 p7 g7 h7 => ?_
    have sp := sp.gr g7
    have st := st.gr g7
    have ch := ch.gr g7
    have spn := spn.gr g7
    have rul := rul.gr g7
    have tie : HasE H7 CW a "ties" := ⟨r1, h7, g7.lst _ _ hr1⟩
    have hl1 := g7.lst _ _ hl1
    refine go_gf p7 rfl W.cl W.covering (by decide +kernel) (by decide) fun H8 fs8 p8 g8 h8 => ⟨rfl, ?_⟩
    have sp := sp.gr g8
    have st := st.gr g8
    have ch := ch.gr g8
    have spn := spn.gr g8
    have rul := rul.gr g8
    have tie := tie.gr g8
    have cov : HasE H8 CW a "covering" := ⟨l1, h8, g8.lst _ _ hl1⟩
    obtain ⟨spl, xsp, hsp1, hsp2, hsp3⟩ := sp
    have spn1 : S.length ≤ 1000 := (hS.psb pb).len
    have spq : HasD H8 CW a "spots" (S.map c3) := ⟨spl, xsp, hsp1, hsp2, hsp3⟩
    refine q_put (i := 0) (R := fun _ _ => True) p8 (fun Q q' => (edt_dc (tk := tVar 7) (tv := tVar 6) (vs := [6, 7]) (g := gTup K 2 (gCons (gName 6) (gCons (gName 7) gNil))) (key := fun n : Nat × (Int × Int) => kP n.2) (val := fun n => .int (n.1 : Int)) (es := (List.range S.length).zip S) (enc := fun n : Nat × (Int × Int) => .tuple [.int (n.1 : Int), c3 n.2]) (by
      have z := ei_enum (K := K) (ld_of (ev_has (ev_var (i := 0) (σ := [some (.ref a), some (.ref sd), some (.ref pt), none, none, none, none, none, none]) rfl) hsp1 W.cl W.spots) hsp2 hsp3)
      have e : numD (S.map c3) = ((List.range S.length).zip S).map fun n : Nat × (Int × Int) => PyData.tuple [.int (n.1 : Int), c3 n.2] := numD_steps' c3 S
      rw [e] at z
      exact z) (by simp; omega) fun n hn => turnk_t2 (d1 := .int (n.1 : Int)) (d2 := c3 n.2) rfl (fun _ _ => rfl) (fun u v H6 e6 x1 x2 => ek_c3 (ed_var rfl x2)) fun u v H6 e6 x1 x2 => by
        rw [x1.int]
        exact ev_var rfl) _ (Ex.refl _) _ fun D H' nD e' hD => q' _ H' e' trivial) rfl W.cl W.spot_at (by decide +kernel) (by decide) fun v9 Hv9 H9 fs9 ev9 rv9 p9 g9 gv9 h9 => ?_
    have st := st.gr g9
    have ch := ch.gr g9
    have spn := spn.gr g9
    have rul := rul.gr g9
    have tie := tie.gr g9
    have cov := cov.gr g9
    have spq := spq.gr g9
    refine q_put (i := 0) (R := fun _ _ => True) p9 (fun Q q' => (edt_dc (tk := tNo) (tv := tNo) (vs := [6, 8]) (g := gTup K 2 (gCons (gName 6) (gCons (gName 8) gNil))) (key := fun _ : Nat => []) (val := fun _ => .non) (es := []) (enc := fun _ : Nat => .none) (by
      obtain ⟨tl, ht1, ht2⟩ := tie
      exact ei_enumE (ev_has (ev_var (i := 0) (σ := [some (.ref a), some (.ref sd), some (.ref pt), none, none, none, none, none, none]) rfl) ht1 W.cl W.ties) ht2) (Nat.zero_le _) fun n hn => nomatch hn) _ (Ex.refl _) _ fun D H' nD e' hD => q' _ H' e' trivial) rfl W.cl W.tie_at (by decide +kernel) (by decide) fun v10 Hv10 H10 fs10 ev10 rv10 p10 g10 gv10 h10 => ?_
    have st := st.gr g10
    have ch := ch.gr g10
    have spn := spn.gr g10
    have rul := rul.gr g10
    have tie := tie.gr g10
    have cov := cov.gr g10
    have spq := spq.gr g10
    refine q_put (i := 0) (R := fun _ _ => True) p10 (fun Q q' => by
      obtain ⟨tl, ht1, ht2⟩ := ch
      exact ev_lenF (ev_var (i := 0) (σ := [some (.ref a), some (.ref sd), some (.ref pt), none, none, none, none, none, none]) rfl) ht1 W.cl W.chains ht2 _ (Ex.refl _) _ fun H' e' => q' _ H' e' trivial) rfl W.cl W.half_turn (by decide +kernel) (by decide) fun v11 Hv11 H11 fs11 ev11 rv11 p11 g11 gv11 h11 => ?_
    have st := st.gr g11
    have ch := ch.gr g11
    have spn := spn.gr g11
    have rul := rul.gr g11
    have tie := tie.gr g11
    have cov := cov.gr g11
    have spq := spq.gr g11
    refine q_put (i := 0) (R := fun v H' => ∃ l, v = .ref l ∧ H' l = some (.lst [])) p11 (fun Q q' => by exact ⟨_, rfl, a, dx, fs11, rfl, p11.at_, p11.no _ (by decide +kernel), a, rfl, spn, tie, cov, fun l H' nl e' hl => q' _ H' e' ⟨l, rfl, hl⟩⟩) rfl W.cl W.turns (by decide +kernel) (by decide) fun v12 Hv12 H12 fs12 ev12 rv12 p12 g12 gv12 h12 => ?_
    have st := st.gr g12
    have ch := ch.gr g12
    have spn := spn.gr g12
    have rul := rul.gr g12
    have tie := tie.gr g12
    have cov := cov.gr g12
    have spq := spq.gr g12
    have tu : HasE H12 CW a "turns" := by
      obtain ⟨l, rfl, hl⟩ := rv12
      exact ⟨l, h12, gv12.lst _ _ hl⟩
    obtain ⟨spl2, xsp2, hsa, hsb, hsc⟩ := spq
    have xl : xsp2.length = S.length := by
      have := hsc.len
      rw [List.length_map] at this
      exact this
    have spq : HasD H12 CW a "spots" (S.map c3) := ⟨spl2, xsp2, hsa, hsb, hsc⟩
    refine q_put (i := 0) (R := fun v H' => ∃ l, v = .ref l ∧ Empties H' l S.length) p12 (fun Q q' => by exact ⟨_, rfl, a, dx, fs12, rfl, p12.at_, p12.no _ (by decide +kernel), a, spl2, xsp2, rfl, hsa, hsb, by omega, tu, fun l H' nl e' hl => q' _ H' e' ⟨l, rfl, xl ▸ hl⟩⟩) rfl W.cl W.leaving (by decide +kernel) (by decide) fun v13 Hv13 H13 fs13 ev13 rv13 p13 g13 gv13 h13 => ?_
    have st := st.gr g13
    have ch := ch.gr g13
    have spn := spn.gr g13
    have rul := rul.gr g13
    have tie := tie.gr g13
    have cov := cov.gr g13
    have spq := spq.gr g13
    have tu := tu.gr g13
    have le : HasN H13 CW a "leaving" S.length := by
      obtain ⟨l, rfl, hl⟩ := rv13
      exact ⟨l, h13, hl.gr gv13⟩
    obtain ⟨lel, hle1, hle2⟩ := le
    have le : HasN H13 CW a "leaving" S.length := ⟨lel, hle1, hle2⟩
    refine q_put (i := 0) (R := fun v H' => ∃ l, v = .ref l ∧ H' l = some (.lst [])) p13 (fun Q q' => by exact ⟨_, rfl, a, dx, fs13, rfl, p13.at_, p13.no _ (by decide +kernel), a, lel, S.length, rfl, tu, hle1, hle2, spn1, fun l H' nl e' hl => q' _ H' e' ⟨l, rfl, hl⟩⟩) rfl W.cl W.after (by decide +kernel) (by decide) fun v14 Hv14 H14 fs14 ev14 rv14 p14 g14 gv14 h14 => ?_
    have st := st.gr g14
    have ch := ch.gr g14
    have spn := spn.gr g14
    have rul := rul.gr g14
    have tie := tie.gr g14
    have cov := cov.gr g14
    have spq := spq.gr g14
    have tu := tu.gr g14
    have le := le.gr g14
    have af : HasE H14 CW a "after" := by
      obtain ⟨l, rfl, hl⟩ := rv14
      exact ⟨l, h14, gv14.lst _ _ hl⟩
    obtain ⟨laf, haf1, haf2⟩ := af
    refine ev_has (ev_var (i := 0) (σ := [some (.ref a), some (.ref sd), some (.ref pt), none, none, none, none, none, none]) rfl) haf1 W.cl W.after H14 (Ex.refl _) _ fun H' e' => ⟨laf, rfl, e' _ _ haf2, fun t2 r2 l2 H'' e'' ht2 hr2 hl2 => ?_⟩
    have ex2 := e'.trans e''
    have px := p14.ex ex2
    have gx := p14.gr ex2
    have st := st.gr gx
    have ch := ch.gr gx
    have spn := spn.gr gx
    have rul := rul.gr gx
    have tie := tie.gr gx
    have cov := cov.gr gx
    have spq := spq.gr gx
    have tu := tu.gr gx
    have le := le.gr gx
    refine ⟨t2, _, rfl, SqT.of ht2, rfl, ?_⟩
    refine go_gf px rfl W.cl W.walks (by decide +kernel) (by decide) fun H15 fs15 p15 g15 h15 => ?_
    have st := st.gr g15
    have ch := ch.gr g15
    have spn := spn.gr g15
    have rul := rul.gr g15
    have tie := tie.gr g15
    have cov := cov.gr g15
    have spq := spq.gr g15
    have tu := tu.gr g15
    have le := le.gr g15
    have wal : HasE H15 CW a "walks" := ⟨r2, h15, g15.lst _ _ hr2⟩
    have hl2 := g15.lst _ _ hl2
    refine go_gf p15 rfl W.cl W.walk_at (by decide +kernel) (by decide) fun H16 fs16 p16 g16 h16 => ⟨rfl, ?_⟩
    have st := st.gr g16
    have ch := ch.gr g16
    have spn := spn.gr g16
    have rul := rul.gr g16
    have tie := tie.gr g16
    have cov := cov.gr g16
    have spq := spq.gr g16
    have tu := tu.gr g16
    have le := le.gr g16
    have wal := wal.gr g16
    have wat : HasE H16 CW a "walk_at" := ⟨l2, h16, g16.lst _ _ hl2⟩
    obtain ⟨spl3, xsp3, hsd1, hsd2, hsd3⟩ := spq
    have spq : HasD H16 CW a "spots" (S.map c3) := ⟨spl3, xsp3, hsd1, hsd2, hsd3⟩
    obtain ⟨stl, yst, hst1, hst2, hst3⟩ := st
    obtain ⟨lel3, hle31, hle32⟩ := le
    have le : HasN H16 CW a "leaving" S.length := ⟨lel3, hle31, hle32⟩
    refine q_put (σ := [some (.ref a), some (.ref sd), some (.ref pt), none, none, none, none, none, none]) (tv := tMeth CW "_first_spots" (spFS1 CW) [] E0 (tVar 0) tNil) (f := "first_spots") (i := 0) (R := fun v H' => ∃ l, v = .ref l ∧ Firsts H' l S.length) p16 (fun Q q' => by exact ⟨_, rfl, a, dx, fs16, rfl, p16.at_, p16.no _ (by decide +kernel), a, spl3, stl, lel3, xsp3, yst, S, B, rfl, hsd1, hsd2, (by have := hsd3.len; rw [List.length_map] at this; exact this), hst1, hst2, hst3, hle31, hle32, spn1, ⟨dx, fs16, p16.at_, p16.no _ (by decide +kernel)⟩, fun l H' nl e' hl => q' _ H' e' ⟨l, rfl, hl⟩⟩) rfl W.cl W.first_spots (by decide +kernel) (by decide) fun v17 Hv17 H17 fs17 ev17 rv17 p17 g17 gv17 h17 => ?_
    have ch := ch.gr g17
    have spn := spn.gr g17
    have rul := rul.gr g17
    have tie := tie.gr g17
    have cov := cov.gr g17
    have spq := spq.gr g17
    have tu := tu.gr g17
    have le := le.gr g17
    have wal := wal.gr g17
    have wat := wat.gr g17
    have fi : HasF H17 CW a "first_spots" S.length := by
      obtain ⟨l, rfl, hl⟩ := rv17
      exact ⟨l, h17, hl.gr gv17⟩
    refine q_putK (i := 0) (R := fun v H' => ∃ l, v = .ref l ∧ H17 l = none ∧ H' l = some (.dK [])) p17 (fun Q q' => by exact fun l hl => q' _ _ (Ex.new hl) ⟨l, rfl, hl, upd_same⟩) rfl W.cl W.lone_rooms (by decide +kernel) (by decide) fun v18 Hv18 H18 fs18 ev18 rv18 p18 g18 kv18 h18 => ?_
    have ch := ch.gr g18
    have spn := spn.gr g18
    have rul := rul.gr g18
    have tie := tie.gr g18
    have cov := cov.gr g18
    have spq := spq.gr g18
    have tu := tu.gr g18
    have le := le.gr g18
    have wal := wal.gr g18
    have wat := wat.gr g18
    have fi := fi.gr g18
    obtain ⟨dl, rfl, dn, hd⟩ := rv18
    have nda : dl ≠ a := by
      rintro rfl
      rw [p17.at_] at dn
      cases dn
    have hdl : H18 dl = some (.dK []) := kv18 _ _ nda hd
    obtain ⟨fil, hfi1, hfi2⟩ := fi
    obtain ⟨lel4, hle41, hle42⟩ := le
    obtain ⟨spl4, xsp4, hse1, hse2, hse3⟩ := spq
    refine ⟨_, rfl, a, dx, fs18, rfl, p18.at_, p18.no _ (by decide +kernel), ?_⟩
    refine ⟨a, dx, dl, fil, lel4, spl4, fs18, xsp4, S, rfl, p18.at_, Nat.le_trans p18.len (by decide), at_of p18.at_ hfi1, hfi2, at_of p18.at_ hle41, hle42, at_of p18.at_ hse1, hse2, hse3, wal, wat, tu, rul, at_of p18.at_ h18, hdl, p18.no _ (by decide +kernel), spn1, ?_⟩
    intro Hz fz r b c kvs kp hz look rc rl hr1 bo hb1 hc1 hkv all
    have gz : Gr CW a H18 Hz := by
      refine ⟨⟨_, _, _, p18.at_, hz, fun g u hg => ?_⟩, fun l ys hl => ?_, fun l ys hl => ?_⟩
      · rw [look g (settled_no (p18.no) (by decide +kernel) hg)]
        exact hg
      · refine kp l _ ?_ ?_ hl
        · rintro rfl
          rw [p18.at_] at hl
          cases hl
        · rintro rfl
          rw [hdl] at hl
          cases hl
      · refine kp l _ ?_ ?_ hl
        · rintro rfl
          rw [p18.at_] at hl
          cases hl
        · rintro rfl
          rw [hdl] at hl
          cases hl
    refine q S Hz (fun l o ne h => kp l o ne ?_ (p18.keep l o ne h)) hS ⟨HasD.gr ⟨spl4, xsp4, hse1, hse2, hse3⟩ gz, HasN.gr ⟨lel4, hle41, hle42⟩ gz, ⟨dl, kvs, Has.gr h18 gz, hkv, all⟩, ⟨_, _, hz, rc⟩, ⟨b, ⟨_, _, hz, bo⟩, [c], hb1, rfl, fun e m => by rw [List.mem_singleton.mp m]; exact hc1⟩, tie.gr gz, tu.gr gz, ⟨r, ⟨_, _, hz, rl⟩, hr1⟩, cov.gr gz, rul.gr gz, ch.gr gz, wal.gr gz, ⟨_, _, hz, (look _ (by decide +kernel)).trans (p18.no _ (by decide +kernel))⟩⟩
    rintro rfl
    have z := p17.keep l o ne h
    rw [dn] at z
    cases z
end
end Q
set_option Elab.async false
set_option linter.all false
set_option maxRecDepth 100000
set_option maxHeartbeats 4000000
/-! a local name gets a dict comprehension; what a local name holds stands fast -/
namespace L2
open PySem PySem.Spec PyProof.Rows
section
variable {X : Cx}
theorem swaps_dc {kx vx : Expr} {gs : List Comprehension} {scope : Scope} {pos py : Pos} {y : Str} {l : Nat} {env : Env} (k : env.scope.kind = .function) (loc : env.scope.names.lookup y = some .local) (line : (py.line == pos.line) = true)
    (own : (scope.names.any fun (n, k) => n == y && (k == .local || k == .cell)) = false) : swapsWith (.DictComp kx vx gs scope pos) (some (.Name y py)) l env = pure true := by
  have h1 : env.kindOf y = some .local := loc
  have h2 : env.blockKind = .function := by
    unfold Env.blockKind
    rw [k]
    rfl
  unfold swapsWith
  simp only [h2, h1, own, Expr.pos, line]
  rfl
theorem ps_setDc {i : Nat} {y : Str} {py : Pos} {kx vx tg iter : Expr} {ifs : List Expr} {scope : Scope} {own : List (Str × Nat)} {pos spos : Pos} {wi : TI} {g : TG} {tt : TT} {tk tv : TE} (hc : X.calm = true) (hN : X.N.Nodup) (hy : X.N[i]? = some y) (hyl : X.env.scope.names.lookup y = some .local)
    (hsw : swapsWith (.DictComp kx vx [⟨tg, iter, ifs, 0⟩] scope pos) (some (.Name y py)) spos.line X.env = pure true) (hi : PI X tg iter wi) (ok : BlkOk X.N X.env.scope scope own)
    (hg : ∀ (s : Shared) (H : Hp) (C : Addr) (cl : List (Str × Addr)) (fp : List Addr), PG (X.blk s H scope (compEnvC scope cl C X.env) fp) tg g) (ht : ∀ (s : Shared) (H : Hp) (C : Addr) (cl : List (Str × Addr)) (fp : List Addr), PTs (X.blk s H scope (compEnvC scope cl C X.env) fp) ifs tt)
    (hk : ∀ (s : Shared) (H : Hp) (C : Addr) (cl : List (Str × Addr)) (fp : List Addr), PE (X.blk s H scope (compEnvC scope cl C X.env) fp) kx tk)
    (he : ∀ (s : Shared) (H : Hp) (C : Addr) (cl : List (Str × Addr)) (fp : List Addr), PE (X.blk s H scope (compEnvC scope cl C X.env) fp) vx tv) (hs : ∀ x, foldedSetIterable iter X.env x = pure x := by intro _; rfl) :
    PS X (.Assign [.Name y py] (.DictComp kx vx [⟨tg, iter, ifs, 0⟩] scope pos) spos) (tAsg (tDc wi g tt tk tv (own.map (·.2))) (gName i)) := by
  constructor
  intro pins s σ H D I h
  rw [exec_Assign_Name_used _ _ _ _ hsw]
  refine wpAny_bind (wpAny_standAt (wpAny_bind ?_))
  show wpAny _ X.A (do let _ ← comprehension (.DictComp kx vx [⟨tg, iter, ifs, 0⟩] scope pos) scope X.env (firstIterPos [⟨tg, iter, ifs, 0⟩] pos) newDict false (eval iter X.env) (some (assign (.Name y py) X.env))) _ _ s
  have h : tDc wi g tt tk tv (own.map (·.2)) σ H (fun x H1 => gName i x σ H1 D.nx) := h
  refine wpAny_bind (thn (dc_core (Qf := fun _ s' => SP X pins D .next s') hc hN I hi ok hg ht hk he hs h ?_) fun _ s' hq => wpAny_pure (wpAny_pure hq))
  intro L C s' m H' I' q hn f
  show wpAny _ _ (assign (.Name y py) X.env (.ref L)) _ _ _
  refine wpAny_assign_Name (store_ok2 (v := V.ref L) I' hN hy (.inl hyl) rfl ?_ (.inr hyl))
  rintro s2 I2 ⟨a, sb, ha⟩
  obtain ⟨f0, f1, f2, f3, f4, f5⟩ := f
  have ne : C ≠ a := by
    rcases ha with z | z
    · rw [z]
      exact f1
    · exact fun e => f4 y a z e.symm
  exact ⟨m, hn.sameBut sb ne, fun h3 sb3 => ⟨_, H', I2.turned (t' := s2.toks) (fun b o hb e => (sb3.2 b hb).trans e) f0 f1 f3 f4 f5, q⟩⟩
/-- what stands at the slot stands fast behind the statement -/
def tSlot (i : Nat) (t : TS) : TS := fun D σ H => t { D with nx := fun σ1 H1 => ∃ a u, σ1[i]? = some (some (.ref a)) ∧ H1 a = some u ∧ Mut (some u) ∧ ∀ od, D.nx σ1 (upd H1 a (.frz od u)) } σ H
theorem ps_slot {st : Stmt} {t : TS} (i : Nat) (h : PS X st t) : PS X st (tSlot i t) := by
  constructor
  intro pins s σ H D I hw
  refine thn (h.run pins s σ H _ I hw) fun f s1 q => ?_
  cases f with
  | next =>
    obtain ⟨σ1, H1, I1, a, u, _, ha, mu, q⟩ := q
    obtain ⟨od, I2⟩ := I1.lock ha mu
    exact ⟨σ1, _, I2, q od⟩
  | brk => exact q
  | cont => exact q
  | ret v => exact q
end
end L2
namespace Q
open PySem L2 PySem.Spec PyProof.Rows PySem.Calls
open Evl
def tListVals (te : TE) : TE := fun σ H Q => te σ H fun x H1 => ∃ (d : Addr) (kvs : List (Key × V)), x = .ref d ∧ H1 d = some (.dK kvs) ∧ ∀ p, H1 p = none → Q (.ref p) (upd H1 p (.lst (kvs.map (·.2))))
section
variable {X : Cx} {e : Expr} {te : TE} {p apos cpos pos : Pos}
theorem pe_listVals (hc : X.calm = true) (he : PE X e te) (hg : Gl X "list") (hm : X.mg "list" = none) (hv : bootBuiltins "list" = some (.type "list")) (hbase : attributeBase e "values" X.env (eval e X.env) = eval e X.env := by rfl) (hline : (apos.endLine == cpos.line) = true := by rfl)
    (hs : starEach [.Call (.Attribute e "values" apos) [] [] cpos] X.env = (false, eval (.Call (.Attribute e "values" apos) [] [] cpos) X.env) :: starEach [] X.env := by rfl) :
    PE X (.Call (.Name "list" p) [.Call (.Attribute e "values" apos) [] [] cpos] [] pos) (tListVals te) := by
  refine ⟨fun pins s σ H Q I hq => ?_⟩
  refine wpAny_Call_Name_kw (ld_blt I hg hm hv ?_)
  refine PyProof.Rows.callWith_type1 ?_ hs rfl
  rw [hs]
  show wpAny _ _ (spliced ((false, eval (.Call (.Attribute e "values" apos) [] [] cpos) X.env) :: backTo pos (starEach [] X.env))) _ _ s
  refine Calls.spliced_cons ?_
  refine wpAny_Call_method (T := "dict") (id := "dict.values") hbase rfl hline F.plainAttrs_dict F.slot_dict_values F.type_dict_values (thn (he.run pins s σ H _ I hq) fun u s1 ⟨x, H1, I1, rx, d, kvs, ex, hd, q⟩ => ?_)
  subst ex
  obtain rfl : u = Value.ref d := rx
  obtain ⟨hz, hs0, vs, kv, hdo⟩ := I1.hok d _ hd
  obtain ⟨ep, hat⟩ := hdo.dictAt
  have lk : kvs.length = vs.length := Paired.length kv
  have I2 : Inv X pins σ H1 { s1 with heap := s1.heap.push { cls := .type "dict_values", data := .fields #[.ref d] } } := I1.kept (t' := s1.toks) fun b ob q => Heap.get?_push_of_some _ q
  refine ⟨hdo.typeIs, hdo.mapOf.noDict, ?_⟩
  show wpAny _ _ (callWith cpos (.builtin "dict.values") [.ref d] [] []) _ X.xe s1
  refine method_meetsIn F.slot_dict_values F.entry_dict_values rfl (PySem.evalArgs_none ⟨rfl, hdo.typeIs, F.args_dict_values_1 _, _, meets_dict_values (mixKind X.prog X.w) d hs0, ⟨vs, hdo⟩, ?_⟩)
  refine Calls.spliced_nil ?_
  refine PySem.W.kdl_call (PySem.W.kdl_values (knd := mixKind X.prog X.w) (kvs := vs) (ep := ep)) (I1.ok.hd hc) ⟨⟨_, Heap.get?_push_size _ rfl, rfl, rfl⟩, hat.push _⟩ (by omega) fun h' tk acc c hk hS hacc => ?_
  have hv' : Vals (kvs.map (·.2)) acc.toList := vals_of_at (by
    have e : acc.toList.length = acc.size := Array.length_toList
    rw [List.length_map, e, hacc.1, lk]) fun j x u h1 h2 => by
    obtain ⟨k, hk⟩ := hacc.2 j u (by rw [← Array.getElem?_toList]; exact h2)
    obtain ⟨y, h3, h4⟩ := KV.at' kv hk
    rw [List.getElem?_map, h3] at h1
    cases h1
    exact h4
  have I3 := I2.laid (a := (s1.heap.push { cls := .type "dict_values", data := .fields #[.ref d] }).objs.size) (o := .lst (kvs.map (·.2))) (t' := tk) hk (Nat.le_refl _) (show ObjOk X.prog X.w _ _ _ (.lst (kvs.map (·.2))) from ⟨by rw [List.length_map]; exact hz, acc.toList, c, hv', by rw [Array.toArray_toList]; exact hS⟩)
  exact ⟨.ref _, _, I3, rfl, q _ (I2.hok.fresh (Nat.le_refl _))⟩
end
section
variable {K : PySem.W.Frag} {σ : L2.St} {H H1 : Hp} {te tk tv : TE} {g : TG} {tt : TT} {vs : List Nat} {d : Addr} {o : Obj} {wi : L2.TI}
theorem ei_items0 (h : Ev te σ H (.ref d)) (hd : H d = some (.frz o (.dK []))) : EvI (iItems te) σ H [] := fun H1 e R q => h H1 e _ fun H2 e2 => ⟨d, o, [], rfl, (e.trans e2) _ _ hd, q _ H2 e2 ⟨_, _, walk_items (d := d) (o := o) (kvs := []), fun H' e3 => (e.trans (e2.trans e3)) _ _ hd, fun i _ _ _ hi => absurd hi (Nat.not_lt_zero _)⟩⟩
theorem ei_keys0 (h : Ev te σ H (.ref d)) (hd : H d = some (.frz o (.dK []))) : EvI (iKeys te) σ H [] := fun H1 e R q => h H1 e _ fun H2 e2 => ⟨d, o, rfl, .inl ⟨[], (e.trans e2) _ _ hd, q _ H2 e2 ⟨_, _, walk_keys (d := d) (o := o) (kvs := []), fun H' e3 => (e.trans (e2.trans e3)) _ _ hd, fun i _ _ _ hi => absurd hi (Nat.not_lt_zero _)⟩⟩⟩
/-- a dict comprehension over nothing -/
theorem go_dc0 (h : EvI wi σ H []) {Q : VK} (q : ∀ D H1, H D = none → Ex H H1 → H1 D = some (.dK []) → Q (.ref D) H1) : tDc wi g tt tk tv vs σ H Q := h H (Ex.refl _) _ fun J H1 e dw D hD => by
  obtain ⟨G, Y, w, hG, _⟩ := dw.ex
  refine ⟨fun i _ H' => i = 0 ∧ H' = upd H1 D (.dK []), ⟨0, rfl, rfl⟩, ?_⟩
  rintro i m H' ⟨rfl, rfl⟩
  exact .inl ⟨w.stops _ (hG _ (Ex.new hD)), q D _ (fresh_back e hD) (e.trans (Ex.new hD)) upd_same⟩
end
end Q
set_option Elab.async false
set_option linter.all false
set_option maxRecDepth 100000
set_option maxHeartbeats 4000000
/-! one room: flooded; groups; owners of no halves -/
namespace Q
open PySem L2 PySem.Spec PyProof.Rows PySem.Calls PySem.OwnX
open Evl
abbrev sFl : Stmt := top 55
abbrev sGI : Stmt := inClass (top 30) 0
abbrev sOw : Stmt := top 36
def spFl (C : Addr) : Sp := fun vs H Q _ => ∃ (a : Addr) (v : V), vs = [.ref a, v] ∧ Has H C a "room_count" (.int 1) ∧ HasN H C a "borders" 1 ∧ ∀ l H', H l = none → Ex H H' → H' l = some (.lst [.int 0]) → Q (.ref l) H'
def spGI (C : Addr) : Sp := fun vs H Q _ => ∃ (a dx : Addr), vs = [.ref a, .int 1] ∧ H a = some (.ins C dx []) ∧ ∀ H', (∀ l o, l ≠ a → H l = some o → H' l = some o) → Q .non H'
def spOw (C : Addr) : Sp := fun vs H Q _ => ∃ (a : Addr) (v : V), vs = [.ref a, v] ∧ Has H C a "room_count" (.int 1) ∧ HasE H C a "ties" ∧ HasE H C a "turns" ∧ ∀ l H', H l = none → Ex H H' → H' l = some (.lst []) → Q (.ref l) H'
/-- a class whose making raises nothing -/
structure Mq (P : Program) (w : World) (K : PySem.W.Frag) (mg : Str → Option Value) (base : Heap) (k : Nat) (x : Str) (C : Addr) (sp : Sp) : Prop where
  ex : ∃ (f : Addr) (fd : FuncData) (ps : List Str), mg x = some (.ref C) ∧ Mk K C f ∧ FnOk P w K mg base CX0 k f fd ps sp ∧ Binds K fd ps []
theorem pe_mq {X : Cx} {k j : Nat} {C : Addr} {x : Str} {sp : Sp} {p pos : Pos} {e : Expr} {es : List Expr} {t : TA} (c : Mq X.prog X.w X.K X.mg X.base k x C sp) (hr : Room j X.A) (hk : k + 1 ≤ j) (hg : Gl X x) (ha : PA X (e :: es) t)
    (hdb : (x == ("__debug__" : Str)) = false := by decide) (he : starEach (e :: es) X.env = (false, eval e X.env) :: starEach es X.env := by rfl) (hpl : (backTo pos (starEach es X.env)).any (·.1) = false := by rfl) :
    PE X (.Call (.Name x p) (e :: es) [] pos) (tMake C sp [] E0 t) := by
  obtain ⟨f, fd, ps, hm, M, F, b⟩ := c.ex
  exact pe_make M F (hr.mono hk) hg hm b .nil pass0 ha hdb he hpl
/-- the class of groups -/
structure GC (K : PySem.W.Frag) (C : Addr) : Prop where
  cl : Cls K C
  lower : NoAttr K C "_lower"
section
variable {P : Program} {w : World} {K : PySem.W.Frag} {mg : Str → Option Value} {base : Heap} {CW CG : Addr}
abbrev nmFl : List Str := ["web", "flips", "bits", "seen", "waiting", "room", "half", "beside"]
theorem scFl : FnScope nmFl ["web", "flips"] (defScope sFl) := ⟨rfl, rfl, rfl, by decide +kernel, rfl, by decide +kernel, by decide +kernel⟩
theorem ok_fl {f : Addr} {fd : FuncData} (F : Fun K "flooded" "flooded" sFl f fd) (W : WC K mg CW) : FnOk P w K mg base CX0 1 f fd ["web", "flips"] (spFl CW) := by
  refine F.ok scFl (fun vs H Q E h => ?_) (fun cdv A' outer s0 H vs Q E hr h => ?_)
  · obtain ⟨a, v, rfl, _⟩ := h
    rfl
  · obtain ⟨a, v, rfl, hc, ⟨lb, hb, es, hb1, hb2, hb3⟩, q⟩ := h
    refine ⟨_, (pss_cons (ps_set (i := 2) scFl.nd rfl (Or.inl rfl) (pe_op op_rep (pe_lst (pa_cons (pe_int) pa_nil)) (pe_fld (pv 0) rfl)))
      (pss_cons (ps_set (i := 3) scFl.nd rfl (Or.inl rfl) (pe_op op_rep (pe_lst (pa_cons (pe_bl) pa_nil)) (pe_fld (pv 0) rfl)))
      (pss_cons (ps_asg pe_bl (pg_sub (pv 3) pe_int set_list))
      (pss_cons (ps_set (i := 4) scFl.nd rfl (Or.inl rfl) (pe_lst (pa_cons (pe_int) pa_nil)))
      (pss_cons (ps_while PassesOwn.never (pt_truth (pv 4) (fun _ => rfl)) (pss_cons (ps_set (i := 5) scFl.nd rfl (Or.inl rfl) (pe_bm0 PySem.F.plainAttrs_list PySem.F.slot_list_pop PySem.F.type_list_pop mt_pop (pv 4)))
        (pss_one (ps_for PassesOwn.never rfl (pi_list (pe_ix ix_list (pe_fld (pv 0) rfl) (pv 5) (fun _ _ => rfl))) (pg_name (i := 6) scFl.nd rfl (Or.inl rfl))
          pss_never))))
      (pss_one (ps_ret (pv 2)))))))), ?_⟩
    obtain ⟨c, rfl⟩ : ∃ c, es = [c] := List.length_eq_one_iff.mp hb2
    have hc1 := hb3 c List.mem_cons_self
    refine q_asgDs (eds_rep (d := .int 0) (n := 1) (eds_lst (da_cons (ed_int ev_c) da_nil) (by decide)) (fun H1 e1 => ev_has (ev_var (i := 0) rfl) (hc.mono e1) W.cl W.room_count) (by decide)) fun l2 xs2 H1 e1 n2 hl2 y2 => ?_
    obtain ⟨_, _, rfl, x2, y2⟩ := y2.inv
    cases y2.inv0
    cases x2.int
    refine q_asgDs (eds_rep (d := .bool false) (n := 1) (eds_lst (da_cons (ed_bool ev_c) da_nil) (by decide)) (fun H2 e2 => ev_has (ev_var (i := 0) rfl) (hc.mono (e1.trans e2)) W.cl W.room_count) (by decide)) fun l3 xs3 H2 e2 n3 hl3 y3 => ?_
    rw [show xs3 = [V.bl false] from y3.bls_inv (bs := [false])] at hl3
    have l2n : l2 ≠ l3 := fun z => by
      rw [← z, hl2] at n3
      cases n3
    refine ⟨_, rfl, l3, [V.bl false], 0, 0, rfl, rfl, hl3, rfl, ?_⟩
    have hl2' : upd H2 l3 (.lst ([V.bl false].set 0 (.bl true))) l2 = some (.lst [.int 0]) := by
      rw [upd_ne l2n]
      exact e2 _ _ hl2
    have e12 : Ex H (upd H2 l3 (.lst ([V.bl false].set 0 (.bl true)))) := Ex.mut (e1.trans e2) (show H l3 = none by
      cases z : H l3 with
      | none => rfl
      | some o => exact absurd (n3.symm.trans (e1 _ _ z)) (fun y => nomatch y))
    generalize upd H2 l3 (.lst ([V.bl false].set 0 (.bl true))) = H3 at hl2' e12 ⊢
    refine q_asgDs (ds := [.int 0]) (eds_lst (da_cons (ed_int ev_c) da_nil) (show 1 ≤ 100000 by decide)) fun wl xs H4 e4 nw hw y => ?_
    obtain ⟨_, _, rfl, x0, y⟩ := y.inv
    cases y.inv0
    cases x0.int
    refine q_while (fun m σ' H' => Ex H3 H' ∧ (∃ u z, σ' = [some (.ref a), some v, some (.ref l2), some (.ref l3), some (.ref wl), u, z, none]) ∧ ((m = 1 ∧ H' wl = some (.lst [.int 0])) ∨ (m = 0 ∧ H' wl = some (.lst [])))) 1 ⟨e4, ⟨_, _, rfl⟩, .inl ⟨rfl, hw⟩⟩ ?_
    rintro m σ' H' ⟨c1, ⟨u, z, rfl⟩, ⟨rfl, c2⟩ | ⟨rfl, c2⟩⟩
    · refine ⟨true, et_truL (ev_var (i := 4) rfl) c2, fun _ H5 e5 => ⟨fun σ2 H2 => Ex H3 H2 ∧ (∃ u z, σ2 = [some (.ref a), some v, some (.ref l2), some (.ref l3), some (.ref wl), u, z, none]) ∧ H2 wl = some (.lst []), fun σ2 H2 c => ⟨0, by decide, c.1, c.2.1, .inr ⟨rfl, c.2.2⟩⟩, ?_⟩, fun z => nomatch z⟩
      have w3 := e5 _ _ c2
      refine q_asgQ ⟨_, rfl, .inl ⟨rfl, _, SqL.of w3⟩, wl, _, .int 0, rfl, rfl, w3, rfl, ?_⟩
      have e6 : Ex H3 (upd H5 wl (.lst [])) := Ex.mut (c1.trans e5) nw
      have e06 := e12.trans e6
      refine s_forE (ei_list (K := K) (ld_of (ev_fix (k := 0) (C := CW) (p := lb) (xs := [.ref c]) (v := .ref c) (ev_var (i := 0) rfl) (hb.mono e06) W.cl W.borders (e06 _ _ hb1) (ev_var (i := 5) rfl) rfl) (e06 _ _ hc1) .nil)) fun H7 e7 => ⟨e6.trans e7, ⟨_, _, rfl⟩, e7 _ _ upd_same⟩
    · refine ⟨false, et_truL (ev_var (i := 4) rfl) c2, (fun z => nomatch z), fun _ H5 e5 => ?_⟩
      refine s_ret (ev_var (i := 2) rfl) fun H6 e6 => q l2 H6 (fresh_back (Ex.refl H) n2) ?_ ?_
      · exact e12.trans (c1.trans (e5.trans e6))
      · exact (c1.trans (e5.trans e6)) _ _ hl2'
abbrev nmGI : List Str := ["self", "count"]
theorem scGI : FnScope nmGI ["self", "count"] (defScope sGI) := ⟨rfl, rfl, rfl, by decide +kernel, rfl, by decide +kernel, by decide +kernel⟩
theorem ok_gi {f : Addr} {fd : FuncData} (F : Fun K "__init__" "Groups.__init__" sGI f fd) (T : TN mg) (G : GC K CG) : FnOk P w K mg base CX0 1 f fd ["self", "count"] (spGI CG) := by
  refine F.ok scGI (fun vs H Q E h => ?_) (fun cdv A' outer s0 H vs Q E hr h => ?_)
  · obtain ⟨a, dx, rfl, _⟩ := h
    rfl
  · obtain ⟨a, dx, rfl, ha, q⟩ := h
    refine ⟨_, (pss_one (ps_fld (pv 0) (pe_listRg rfl (by rfl) T.list (prg_1 (by rfl) T.range (pv 1))) rfl)), ?_⟩
    refine ⟨_, rfl, 1, rfl, RgOk.of_le (by decide) (by decide) (by decide) (by decide), fun p hp => ?_⟩
    have ap : a ≠ p := fun z => by
      rw [← z, ha] at hp
      cases hp
    refine ⟨_, rfl, a, CG, dx, [], rfl, Ex.new hp _ _ ha, G.cl, G.lower, by decide, q _ fun l o n hl => ?_⟩
    rw [upd_ne n]
    exact Ex.new hp _ _ hl
abbrev nmOw : List Str := ["web", "rooms_in", "groups", "tie", "left", "right", "owners", "half", "room"]
theorem scOw : FnScope nmOw ["web", "rooms_in"] (defScope sOw) := ⟨rfl, rfl, rfl, by decide +kernel, rfl, by decide +kernel, by decide +kernel⟩
theorem ok_ow {f : Addr} {fd : FuncData} (F : Fun K "_owners" "_owners" sOw f fd) (T : TN mg) (W : WC K mg CW) (MG : Mq P w K mg base 1 "Groups" CG (spGI CG)) : FnOk P w K mg base CX0 3 f fd ["web", "rooms_in"] (spOw CW) := by
  refine F.ok scOw (fun vs H Q E h => ?_) (fun cdv A' outer s0 H vs Q E hr h => ?_)
  · obtain ⟨a, v, rfl, _⟩ := h
    rfl
  · obtain ⟨a, v, rfl, hc, ⟨lt, ht1, ht2⟩, ⟨lu, hu1, hu2⟩, q⟩ := h
    refine ⟨_, (pss_cons (ps_set (i := 2) scOw.nd rfl (Or.inl rfl) (pe_mq MG hr (by decide) (by rfl) (pa_cons (pe_fld (pv 0) rfl) pa_nil)))
      (pss_cons (ps_for PassesOwn.never rfl (pi_range1 (by rfl) T.range (pa_cons (pe_callB call_len_seq (by rfl) T.len PySem.boot_len (pa_cons (pe_fld (pv 0) rfl) pa_nil)) pa_nil)) (pg_name (i := 3) scOw.nd rfl (Or.inl rfl))
        pss_never)
      (pss_cons (ps_set (i := 6) scOw.nd rfl (Or.inl rfl) (pe_lst pa_nil))
      (pss_cons (ps_for PassesOwn.never rfl (pi_range1 (by rfl) T.range (pa_cons (pe_callB call_len_seq (by rfl) T.len PySem.boot_len (pa_cons (pe_fld (pv 0) rfl) pa_nil)) pa_nil)) (pg_name (i := 7) scOw.nd rfl (Or.inl rfl))
        pss_never)
      (pss_one (ps_ret (pv 6))))))), ?_⟩
    refine q_asgQ (ea_cons (ev_has (ev_var (i := 0) rfl) hc W.cl W.room_count) ea_nil H (Ex.refl _) _ fun H1 e1 x dx nx ndx ne => ⟨x, dx, rfl, upd_same, fun H2 kp => ⟨rfl, ?_⟩⟩)
    have e2 : Ex H H2 := fun l o hl => by
      have hl1 := e1 _ _ hl
      refine kp l o (fun z => ?_) ?_
      · rw [z, nx] at hl1
        cases hl1
      · rw [upd_ne (fun z => by
          rw [z, nx] at hl1
          cases hl1), upd_ne (fun z => by
          rw [z, ndx] at hl1
          cases hl1)]
        exact hl1
    refine q_forE (ei_rng (m := 0) (ea_cons (ev_lenF (ev_var (i := 0) rfl) (ht1.mono e2) W.cl W.ties (e2 _ _ ht2)) ea_nil) (by decide)) fun H3 e3 => ?_
    have e23 := e2.trans e3
    refine q_asgDs (ds := []) (eds_lst da_nil (by decide)) fun l xs H4 e4 nl hl y => ?_
    cases y.inv0
    have e24 := e23.trans e4
    refine q_forE (ei_rng (m := 0) (ea_cons (ev_lenF (ev_var (i := 0) rfl) (hu1.mono e24) W.cl W.turns (e24 _ _ hu2)) ea_nil) (by decide)) fun H5 e5 => ?_
    exact s_ret (ev_var (i := 6) rfl) fun H6 e6 => q l H6 (fresh_back e23 nl) (e24.trans (e5.trans e6)) ((e5.trans e6) _ _ hl)
end
end Q
set_option Elab.async false
set_option linter.all false
set_option maxRecDepth 100000
set_option maxHeartbeats 4000000
/-! the least form of chosen cells of a web of lone spots -/
namespace Q
open PySem L2 PySem.Spec PyProof.Rows PySem.Calls PySem.OwnX
open Evl
abbrev sAr : Stmt := top 35
abbrev sPo : Stmt := top 33
abbrev sRA : Stmt := inClass (top 50) 4
abbrev sAl : Stmt := top 42
abbrev sFo2 : Stmt := top 32
/-- the chosen ones -/
def sel (S : List (Int × Int)) (bs : List Bool) : List (Int × Int) := ((List.range S.length).filter fun k => bs.getD k false).map fun k => S.getD k (0, 0)
theorem sel_all {S : List (Int × Int)} {bs : List Bool} (h : ∀ k, k < S.length → bs.getD k false = true) : sel S bs = S := by
  unfold sel
  rw [List.filter_eq_self.mpr fun k hk => h k (List.mem_range.mp hk)]
  refine List.ext_getElem (by simp) fun i h1 h2 => ?_
  simp [h2]
theorem sel_len (S : List (Int × Int)) (bs : List Bool) : (sel S bs).length ≤ S.length := by
  unfold sel
  rw [List.length_map]
  exact Nat.le_trans (List.length_filter_le _ _) (by rw [List.length_range]; exact Nat.le_refl _)
theorem sel_sub {S : List (Int × Int)} {bs : List Bool} {p : Int × Int} (h : p ∈ sel S bs) : p ∈ S := by
  unfold sel at h
  obtain ⟨k, hk, rfl⟩ := List.mem_map.mp h
  have hl := List.mem_range.mp (List.mem_filter.mp hk).1
  rw [List.getD_eq_getElem?_getD, List.getElem?_eq_getElem hl]
  exact List.getElem_mem _
/-- a form of lone points -/
def formD (P : List (Int × Int)) : PyData := .tuple [.tuple [], .tuple [], .tuple (P.map c3)]
def spAr (C : Addr) : Sp := fun vs H Q _ => ∃ (a : Addr) (v : V), vs = [.ref a, v] ∧ HasE H C a "turns" ∧ ∀ D H', Ex H H' → H' D = some (.dK []) → Q (.ref D) H'
def spPo : Sp := fun vs H Q _ => ∃ (v : V) (l : Addr), vs = [v, .ref l] ∧ H l = some (.lst []) ∧ ∀ t H', Ex H H' → TD1 H' t (.tuple []) → Q t H'
def spRA (C : Addr) : Sp := fun vs H Q _ => ∃ (a : Addr) (S : List (Int × Int)) (k : Nat), vs = [.ref a, .int (k : Int)] ∧ LoneW C H a S ∧ k < S.length ∧ ∀ H', Ex H H' → Q (.int 0) H'
def spAl (C : Addr) : Sp := fun vs H Q _ => ∃ (a r : Addr) (v : V) (S : List (Int × Int)) (k : Nat), vs = [.ref a, .int (k : Int), v, .ref r] ∧ LoneW C H a S ∧ k < S.length ∧ H r = some (.lst [.bl false]) ∧ ∀ H', Ex H H' → Q (.bl true) H'
def spFm (C : Addr) : Sp := fun vs H Q _ => ∃ (a s t r : Addr) (S : List (Int × Int)) (bs : List Bool), vs = [.ref a, .ref s, .ref t, .ref r] ∧ LoneW C H a S ∧ S.length ≤ 1000 ∧ H s = some (.lst (bs.map V.bl)) ∧ bs.length = S.length ∧ H t = some (.lst []) ∧ H r = some (.lst [.bl false]) ∧
  ∀ v H', Ex H H' → TD1 H' v (formD (sel S bs)) → Q v H'
section
variable {K : PySem.W.Frag} {σ : L2.St} {H : Hp} {te tb : TE} {C a : Addr} {f : Str} {ds : List PyData} {d : PyData} {k : Nat}
theorem ed_fix (h : Ev te σ H (.ref a)) (hv : HasD H C a f ds) (cl : Cls K C) (na : NoAttr K C f) (hi : Ev tb σ H (.int (k : Int))) (hk : ds[k]? = some d) : EvD (tOp (rIxL K) (tFld K te f) tb) σ H d := by
  obtain ⟨l, xs, h1, h2, h3⟩ := hv
  obtain ⟨v, hv, t⟩ := h3.at hk
  exact ed_of (ev_fix h h1 cl na h2 hi hv) t
theorem ev_any {bs : List Bool} (h : EvDs te σ H (bs.map PyData.bool)) : Ev (tCB (rAny K) (tCons te tNil)) σ H (.bl (bs.any id)) := fun H1 e Q q => h H1 e _ fun p xs H2 n e2 hp x => by
  rw [x.bls_inv] at hp
  exact ⟨p, bs, rfl, SqL.of hp, q H2 e2⟩
theorem q_slotA {i : Nat} {tz : TS} {D : Ends} {te : TE} (h : te σ H fun x H1 => ∃ a u, (σ.set i (some x))[i]? = some (some (.ref a)) ∧ H1 a = some u ∧ Mut (some u) ∧ ∀ od, tz D (σ.set i (some x)) (upd H1 a (.frz od u))) : tSeq (tSlot i (tAsg te (gName i))) tz D σ H := h
theorem ev_lenD {n : Nat} (h : Ev te σ H (.ref a)) (hv : HasD H C a f ds) (cl : Cls K C) (na : NoAttr K C f) (hn : ds.length = n) : Ev (tCB (rLn K) (tCons (tFld K te f) tNil)) σ H (.int (n : Int)) := by
  obtain ⟨l, xs, h1, h2, h3⟩ := hv
  rw [← hn, ← h3.len]
  exact ev_lenF h h1 cl na h2
theorem ev_lenE (h : Ev te σ H (.ref a)) (hv : HasE H C a f) (cl : Cls K C) (na : NoAttr K C f) : Ev (tCB (rLn K) (tCons (tFld K te f) tNil)) σ H (.int ((0 : Nat) : Int)) := by
  obtain ⟨l, h1, h2⟩ := hv
  exact ev_lenF h h1 cl na h2
end
section
variable {P : Program} {w : World} {K : PySem.W.Frag} {mg : Str → Option Value} {base : Heap} {CW : Addr}
abbrev nmAr : List Str := ["web", "owners", "found", "seen", "half", "ring", "is_hole", "owner", "rings", "_", "told"]
theorem scAr : FnScope nmAr ["web", "owners"] (defScope sAr) := ⟨rfl, rfl, rfl, by decide +kernel, rfl, by decide +kernel, by decide +kernel⟩
theorem ok_ar {f : Addr} {fd : FuncData} (F : Fun K "_areas" "_areas" sAr f fd) (T : TN mg) (W : WC K mg CW) : FnOk P w K mg base CX0 1 f fd ["web", "owners"] (spAr CW) := by
  refine F.ok scAr (fun vs H Q E h => ?_) (fun cdv A' outer s0 H vs Q E hr h => ?_)
  · obtain ⟨a, v, rfl, _⟩ := h
    rfl
  · obtain ⟨a, v, rfl, htu, q⟩ := h
    refine ⟨_, (pss_cons (ps_set (i := 2) scAr.nd rfl (Or.inl rfl) (pe_fast pe_dnewK))
      (pss_cons (ps_set (i := 3) scAr.nd rfl (Or.inl rfl) (pe_op op_rep (pe_lst (pa_cons (pe_bl) pa_nil)) (pe_callB call_len_seq (by rfl) T.len PySem.boot_len (pa_cons (pe_fld (pv 0) rfl) pa_nil))))
      (pss_cons (ps_for PassesOwn.never rfl (pi_range1 (by rfl) T.range (pa_cons (pe_callB call_len_seq (by rfl) T.len PySem.boot_len (pa_cons (pe_fld (pv 0) rfl) pa_nil)) pa_nil)) (pg_name (i := 4) scAr.nd rfl (Or.inl rfl))
        pss_never)
      (pss_one (ps_ret (pe_dc (own := [("owner", 7), ("rings", 8)]) (g := gTup K 2 (gCons (gName 7) (gCons (gName 8) gNil))) (by rfl) scAr.nd (pi_items (pv 2) (by rfl) (by rfl)) (blkOk_by (own := [("owner", 7), ("rings", 8)]) (N := nmAr) (sc := defScope sAr) (by decide +kernel)) (fun _ _ _ _ _ => by exact (pg_tup (by rfl) (pgs_cons (pg_name (i := 7) scAr.nd rfl (Or.inl rfl)) (pgs_cons (pg_name (i := 8) scAr.nd rfl (Or.inl rfl)) pgs_nil)))) (fun _ _ _ _ _ => pts_nil) (tk := tNo) (fun _ _ _ _ _ => by exact pe_never) (tv := tNo) (fun _ _ _ _ _ => by exact pe_never))))))), ?_⟩
    refine q_asgQ fun D nD => ⟨D, _, rfl, upd_same, trivial, fun od => ?_⟩
    have e1 : Ex H (upd (upd H D (.dK [])) D (.frz od (.dK []))) := Ex.mut (Ex.new nD) nD
    have hD : upd (upd H D (.dK [])) D (.frz od (.dK [])) D = some (.frz od (.dK [])) := upd_same
    generalize upd (upd H D (.dK [])) D (.frz od (.dK [])) = H1 at e1 hD ⊢
    refine q_asgDs (eds_rep (d := .bool false) (n := 0) (eds_lst (da_cons (ed_bool ev_c) da_nil) (by decide)) (fun H2 e2 => ev_lenE (ev_var (i := 0) rfl) (htu.mono (e1.trans e2)) W.cl W.turns) (by decide)) fun l2 xs2 H2 e2 n2 hl2 y2 => ?_
    refine q_forE (ei_rng (m := 0) (ea_cons (ev_lenE (ev_var (i := 0) rfl) (htu.mono (e1.trans e2)) W.cl W.turns) ea_nil) (by decide)) fun H3 e3 => ?_
    exact s_retQ (go_dc0 (ei_items0 (ev_var (i := 2) rfl) ((e2.trans e3) _ _ hD)) fun D2 H4 n4 e4 h4 => q D2 H4 (((e1.trans e2).trans e3).trans e4) h4)
abbrev nmPo : List Str := ["web", "ties", "leaving", "tie", "half", "spot", "knots", "found", "end", "halves", "start"]
theorem scPo : FnScope nmPo ["web", "ties"] (defScope sPo) := ⟨rfl, rfl, rfl, by decide +kernel, rfl, by decide +kernel, by decide +kernel⟩
theorem ok_po {f : Addr} {fd : FuncData} (F : Fun K "pieces_of" "pieces_of" sPo f fd) (T : TN mg) : FnOk P w K mg base CX0 1 f fd ["web", "ties"] spPo := by
  refine F.ok scPo (fun vs H Q E h => ?_) (fun cdv A' outer s0 H vs Q E hr h => ?_)
  · obtain ⟨v, l, rfl, _⟩ := h
    rfl
  · obtain ⟨v, l, rfl, hl, q⟩ := h
    refine ⟨_, (pss_cons (ps_set (i := 2) scPo.nd rfl (Or.inl rfl) (pe_fast pe_dnewK))
      (pss_cons (ps_for PassesOwn.never rfl (pi_list (pv 1)) (pg_name (i := 3) scPo.nd rfl (Or.inl rfl))
        pss_never)
      (pss_cons (ps_slot 6 (ps_setDc (i := 6) (own := [("spot", 5), ("halves", 9)]) (g := gTup K 2 (gCons (gName 5) (gCons (gName 9) gNil))) (by rfl) scPo.nd rfl rfl (swaps_dc rfl rfl rfl (by decide +kernel)) (pi_items (pv 2) (by rfl) (by rfl)) (blkOk_by (own := [("spot", 5), ("halves", 9)]) (N := nmPo) (sc := defScope sPo) (by decide +kernel)) (fun _ _ _ _ _ => by exact (pg_tup (by rfl) (pgs_cons (pg_name (i := 5) scPo.nd rfl (Or.inl rfl)) (pgs_cons (pg_name (i := 9) scPo.nd rfl (Or.inl rfl)) pgs_nil)))) (fun _ _ _ _ _ => pts_nil) (tk := tNo) (fun _ _ _ _ _ => by exact pe_never) (tv := tNo) (fun _ _ _ _ _ => by exact pe_never)))
      (pss_cons (ps_set (i := 7) scPo.nd rfl (Or.inl rfl) (pe_lst pa_nil))
      (pss_cons (ps_for PassesOwn.never rfl (pi_keys (pv 6)) (pg_name (i := 5) scPo.nd rfl (Or.inl rfl))
        pss_never)
      (pss_one (ps_ret (pe_callTy call_tuple_of (by rfl) T.tuple (by decide +kernel) (pa_cons (pe_lc (own := [("start", 10), ("end", 8)]) (g := gTup K 2 (gCons (gName 10) (gCons (gName 8) gNil))) (by rfl) scPo.nd (pi_list (pe_callB cr_sortLex (by rfl) T.sorted (by decide +kernel) (pa_cons (pv 7) pa_nil)))
        (blkOk_by (own := [("start", 10), ("end", 8)]) (N := nmPo) (sc := defScope sPo) (by decide +kernel))
        (fun _ _ _ _ _ => by exact (pg_tup (by rfl) (pgs_cons (pg_name (i := 10) scPo.nd rfl (Or.inl rfl)) (pgs_cons (pg_name (i := 8) scPo.nd rfl (Or.inl rfl)) pgs_nil)))) (fun _ _ _ _ _ => pts_nil)
        (te := tNo) (fun _ _ _ _ _ => by exact pe_never)) pa_nil))))))))), ?_⟩
    refine q_asgQ fun D nD => ⟨D, _, rfl, upd_same, trivial, fun od => ?_⟩
    have e1 : Ex H (upd (upd H D (.dK [])) D (.frz od (.dK []))) := Ex.mut (Ex.new nD) nD
    have hD : upd (upd H D (.dK [])) D (.frz od (.dK [])) D = some (.frz od (.dK [])) := upd_same
    generalize upd (upd H D (.dK [])) D (.frz od (.dK [])) = H1 at e1 hD ⊢
    refine q_forE (ei_nil (ev_var (i := 1) rfl) (e1 _ _ hl)) fun H2 e2 => ?_
    have e12 := e1.trans e2
    refine q_slotA (go_dc0 (ei_items0 (ev_var (i := 2) rfl) (e2 _ _ hD)) fun D2 H3 n3 e3 h3 => ⟨D2, _, rfl, h3, trivial, fun od2 => ?_⟩)
    have e4 : Ex H2 (upd H3 D2 (.frz od2 (.dK []))) := Ex.mut e3 n3
    have h4 : upd H3 D2 (.frz od2 (.dK [])) D2 = some (.frz od2 (.dK [])) := upd_same
    have e14 := e12.trans e4
    generalize upd H3 D2 (.frz od2 (.dK [])) = H4 at e14 h4 ⊢
    refine q_asgDs (ds := []) (eds_lst da_nil (by decide)) fun l5 xs5 H5 e5 n5 hl5 y5 => ?_
    cases y5.inv0
    refine q_forE (ei_keys0 (ev_var (i := 6) rfl) (e5 _ _ h4)) fun H6 e6 => ?_
    exact s_retD (ed_tupL (id (eds_lcE (te := tNo) (tt := tYes) (ei_list (K := K) (ld_sortE (ld_of (ev_var (i := 7) rfl) (e6 _ _ hl5) .nil)))))) fun v7 H7 e7 x7 => q v7 H7 (((e14.trans e5).trans e6).trans e7) x7
abbrev nmRA : List Str := ["self", "spot"]
theorem scRA : FnScope nmRA ["self", "spot"] (defScope sRA) := ⟨rfl, rfl, rfl, by decide +kernel, rfl, by decide +kernel, by decide +kernel⟩
theorem ok_ra {f : Addr} {fd : FuncData} (F : Fun K "room_around" "Web.room_around" sRA f fd) (W : WC K mg CW) : FnOk P w K mg base CX0 1 f fd ["self", "spot"] (spRA CW) := by
  refine F.ok scRA (fun vs H Q E h => ?_) (fun cdv A' outer s0 H vs Q E hr h => ?_)
  · obtain ⟨a, S, k, rfl, _⟩ := h
    rfl
  · obtain ⟨a, S, k, rfl, L, hk, q⟩ := h
    refine ⟨_, (pss_cons (ps_if (pt_truth (pe_ix ix_list (pe_fld (pv 0) rfl) (pv 1) (fun _ _ => rfl)) (fun _ => rfl)) pss_never pss_nil)
      (pss_one (ps_ret (pe_dget (hu_of hr) (pe_fld (pv 0) rfl) (pv 1) (fun _ _ => rfl))))), ?_⟩
    obtain ⟨le, hle, es, m1, m2, m3⟩ := L.leaving
    obtain ⟨d, kvs, hd1, hd2, hd3⟩ := L.lone
    have hek : es[k]? = some es[k] := List.getElem?_eq_getElem (by omega)
    have he0 := m3 es[k] (List.getElem_mem _)
    refine q_when (b := false) (et_is (et_truL (ev_fix (k := k) (v := .ref es[k]) (ev_var (i := 0) rfl) hle W.cl W.leaving m1 (ev_var (i := 1) rfl) (by rw [List.getElem?_map, hek]; rfl)) he0) rfl) (fun z => nomatch z) fun _ H1 e1 => ?_
    refine s_retQ (ev_has (ev_var (i := 0) rfl) (hd1.mono e1) W.cl W.lone_rooms H1 (Ex.refl _) _ fun H2 e2 => ⟨_, rfl, d, _, rfl, (hd3 k hk) ▸ DGet.k (k := .inl (k : Int)) ((e1.trans e2) _ _ hd2), q H2 (e1.trans e2)⟩)
abbrev nmAl : List Str := ["web", "spot", "threads", "rooms_in", "half"]
theorem scAl : FnScope nmAl ["web", "spot", "threads", "rooms_in"] (defScope sAl) := ⟨rfl, rfl, rfl, by decide +kernel, rfl, by decide +kernel, by decide +kernel⟩
theorem ok_al {f : Addr} {fd : FuncData} (F : Fun K "_is_alone" "_is_alone" sAl f fd) (T2 : TN2 mg) (W : WC K mg CW) (MR : Mt P w K mg base 1 CW "room_around" (spRA CW)) : FnOk P w K mg base CX0 2 f fd ["web", "spot", "threads", "rooms_in"] (spAl CW) := by
  refine F.ok scAl (fun vs H Q E h => ?_) (fun cdv A' outer s0 H vs Q E hr h => ?_)
  · obtain ⟨a, r, v, S, k, rfl, _⟩ := h
    rfl
  · obtain ⟨a, r, v, S, k, rfl, L, hk, hr0, q⟩ := h
    refine ⟨_, (pss_cons (ps_if (pt_truth (pe_ix ix_list (pv 3) (pe_mt MR hr (by decide) (pv 0) (pa_cons (pv 1) pa_nil)) (fun _ _ => rfl)) (fun _ => rfl)) (pss_one (ps_ret pe_bl)) pss_nil)
      (pss_one (ps_ret (pe_not (pe_callB (cr_any rfl) (by rfl) T2.any (by decide +kernel) (pa_cons (pe_lc (own := [("half", 4)]) (g := gName 4) (by rfl) scAl.nd (pi_list (pe_ix ix_list (pe_fld (pv 0) rfl) (pv 1) (fun _ _ => rfl)))
        (blkOk_by (own := [("half", 4)]) (N := nmAl) (sc := defScope sAl) (by decide +kernel))
        (fun _ _ _ _ _ => by exact (pg_name (i := 4) scAl.nd rfl (Or.inl rfl))) (fun _ _ _ _ _ => pts_nil)
        (te := tNo) (fun _ _ _ _ _ => by exact pe_never)) pa_nil)))))), ?_⟩
    obtain ⟨le, hle, es, m1, m2, m3⟩ := L.leaving
    have hek : es[k]? = some es[k] := List.getElem?_eq_getElem (by omega)
    have he0 := m3 es[k] (List.getElem_mem _)
    obtain ⟨dx, fs, la, lb⟩ := L.lacks
    have t0 : EvT (fun σ H Q => tOp (rIxL K) (tVar 3) (tMeth CW "room_around" (spRA CW) [] E0 (tVar 0) (tCons (tVar 1) tNil)) σ H fun x H' => ∃ k, TruV K x H' k ∧ Q k H') [some (.ref a), some (.int (k : Int)), some v, some (.ref r), none] H false := fun H1 e1 Q q => ⟨_, rfl, _, rfl, a, dx, fs, rfl, e1 _ _ la, lb, _, rfl, a, S, k, rfl, L.mono e1, hk, fun H2 e2 => ⟨r, _, 0, _, rfl, rfl, SqL.of ((e1.trans e2) _ _ hr0), rfl, false, rfl, q H2 e2⟩⟩
    refine q_when (b := false) t0 (fun z => nomatch z) fun _ H1 e1 => ?_
    have L1 := L.mono e1
    have lk : EvLd (tOp (rIxL K) (tFld K (tVar 0) "leaving") (tVar 1)) [some (.ref a), some (.int (k : Int)), some v, some (.ref r), none] H1 [] := ld_of (ev_fix (k := k) (v := .ref es[k]) (ev_var (i := 0) rfl) (hle.mono e1) W.cl W.leaving (e1 _ _ m1) (ev_var (i := 1) rfl) (by rw [List.getElem?_map, hek]; rfl)) (e1 _ _ he0) .nil
    refine s_ret (v := .bl true) ?_ fun H2 e2 => q H2 (e1.trans e2)
    exact ev_notV (a := false) (ev_any (bs := []) (eds_lcE (te := tNo) (tt := tYes) (ei_list lk)))
abbrev nmFo2 : List Str := ["web", "spots_in", "ties_in", "rooms_in", "threads", "areas", "pieces", "points", "tie", "spot", "rings"]
theorem scFo2 : FnScope nmFo2 ["web", "spots_in", "ties_in", "rooms_in"] (defScope sFo2) := ⟨rfl, rfl, rfl, by decide +kernel, rfl, by decide +kernel, by decide +kernel⟩
theorem ok_fm {f : Addr} {fd : FuncData} (F : Fun K "form_of" "form_of" sFo2 f fd) (T : TN mg) (W : WC K mg CW) (CA : Cl P w K mg base 1 "_areas" (spAr CW)) (CO : Cl P w K mg base 3 "_owners" (spOw CW)) (CP : Cl P w K mg base 1 "pieces_of" spPo) (CI : Cl P w K mg base 2 "_is_alone" (spAl CW)) :
    FnOk P w K mg base CX0 4 f fd ["web", "spots_in", "ties_in", "rooms_in"] (spFm CW) := by
  refine F.ok scFo2 (fun vs H Q E h => ?_) (fun cdv A' outer s0 H vs Q E hr h => ?_)
  · obtain ⟨a, s, t, r, S, bs, rfl, _⟩ := h
    rfl
  · obtain ⟨a, s, t, r, S, bs, rfl, L, hz, hs, hbs, ht, hr0, q⟩ := h
    refine ⟨_, (pss_cons (ps_set (i := 4) scFo2.nd rfl (Or.inr rfl) (pe_lc (own := [("tie", 8)]) (g := gName 8) (by rfl) scFo2.nd (pi_range1 (by rfl) T.range (pa_cons (pe_callB call_len_seq (by rfl) T.len PySem.boot_len (pa_cons (pe_fld (pv 0) rfl) pa_nil)) pa_nil))
        (blkOk_by (own := [("tie", 8)]) (N := nmFo2) (sc := defScope sFo2) (by decide +kernel))
        (fun _ _ _ _ _ => by exact (pg_name (i := 8) scFo2.nd rfl (Or.inl rfl))) (fun _ _ _ _ _ => pts_nil)
        (te := tNo) (fun _ _ _ _ _ => by exact pe_never)))
      (pss_cons (ps_set (i := 5) scFo2.nd rfl (Or.inl rfl) (pe_callB cr_sortLex (by rfl) T.sorted (by decide +kernel) (pa_cons (pe_listVals rfl (pe_cl CA hr (by decide) (by rfl) (pa_cons (pv 0) (pa_cons (pe_cl CO hr (by decide) (by rfl) (pa_cons (pv 0) (pa_cons (pv 3) pa_nil))) pa_nil))) (by rfl) T.list (by rfl)) pa_nil)))
      (pss_cons (ps_set (i := 6) scFo2.nd rfl (Or.inl rfl) (pe_cl CP hr (by decide) (by rfl) (pa_cons (pv 0) (pa_cons (pe_lc (own := [("tie", 8)]) (g := gName 8) (by rfl) scFo2.nd (pi_range1 (by rfl) T.range (pa_cons (pe_callB call_len_seq (by rfl) T.len PySem.boot_len (pa_cons (pe_fld (pv 0) rfl) pa_nil)) pa_nil))
        (blkOk_by (own := [("tie", 8)]) (N := nmFo2) (sc := defScope sFo2) (by decide +kernel))
        (fun _ _ _ _ _ => by exact (pg_name (i := 8) scFo2.nd rfl (Or.inl rfl))) (tt := (tB (tOp (rIxL K) (tVar 4) (tVar 8)))) (fun _ _ _ _ _ => by exact (pts_one (pt_val (pe_ix ix_list (pv 4) (pv 8) (fun _ _ => rfl)))))
        (te := (tVar 8)) (fun _ _ _ _ _ => by exact (pv 8))) pa_nil))))
      (pss_cons (ps_setLc (i := 7) (own := [("spot", 9)]) (g := gName 9) (by rfl) scFo2.nd rfl rfl (sw_true rfl rfl rfl (by decide +kernel)) (pi_range1 (by rfl) T.range (pa_cons (pe_callB call_len_seq (by rfl) T.len PySem.boot_len (pa_cons (pe_fld (pv 0) rfl) pa_nil)) pa_nil))
        (blkOk_by (own := [("spot", 9)]) (N := nmFo2) (sc := defScope sFo2) (by decide +kernel))
        (fun _ _ _ _ _ => by exact (pg_name (i := 9) scFo2.nd rfl (Or.inl rfl))) (tt := (tAnd (tB (tOp (rIxL K) (tVar 1) (tVar 9))) (tB (tCall (spAl CW) [] E0 (tCons (tVar 0) (tCons (tVar 9) (tCons (tVar 4) (tCons (tVar 3) tNil)))))))) (fun _ _ _ _ _ => by exact (pts_one (pw_and (pt_val (pe_ix ix_list (pv 1) (pv 9) (fun _ _ => rfl))) (pw_and1 (pt_val (pe_cl CI hr (by decide) (by rfl) (by exact (pa_cons (pv 0) (pa_cons (pv 9) (pa_cons (pv 4) (pa_cons (pv 3) pa_nil))))))))).pt))
        (te := (tVar 9)) (fun _ _ _ _ _ => by exact (pv 9)))
      (pss_one (ps_ret (pe_tup (pa_cons (pe_callTy call_tuple_of (by rfl) T.tuple (by decide +kernel) (pa_cons (pe_lc (own := [("rings", 10)]) (g := gName 10) (by rfl) scFo2.nd (pi_list (pv 5))
        (blkOk_by (own := [("rings", 10)]) (N := nmFo2) (sc := defScope sFo2) (by decide +kernel))
        (fun _ _ _ _ _ => by exact (pg_name (i := 10) scFo2.nd rfl (Or.inl rfl))) (fun _ _ _ _ _ => pts_nil)
        (te := tNo) (fun _ _ _ _ _ => by exact pe_never)) pa_nil)) (pa_cons (pv 6) (pa_cons (pe_callTy call_tuple_of (by rfl) T.tuple (by decide +kernel) (pa_cons (pe_lc (own := [("spot", 9)]) (g := gName 9) (by rfl) scFo2.nd (pi_list (pv 7))
        (blkOk_by (own := [("spot", 9)]) (N := nmFo2) (sc := defScope sFo2) (by decide +kernel))
        (fun _ _ _ _ _ => by exact (pg_name (i := 9) scFo2.nd rfl (Or.inl rfl))) (fun _ _ _ _ _ => pts_nil)
        (te := (tOp (rIxL K) (tFld K (tVar 0) "spots") (tVar 9))) (fun _ _ _ _ _ => by exact (pe_ix ix_list (pe_fld (pv 0) rfl) (pv 9) (fun _ _ => rfl)))) pa_nil)) pa_nil)))))))))), ?_⟩
    -- no threads
    refine q_asgDs (ds := []) (eds_lcE (te := tNo) (tt := tYes) (vs := [8]) (g := gName 8) (ei_rng (m := 0) (ea_cons (ev_lenE (ev_var (i := 0) rfl) L.ties W.cl W.ties) ea_nil) (by decide))) fun l1 xs1 H1 e1 n1 hl1 y1 => ?_
    cases y1.inv0
    have L1 := L.mono e1
    -- no areas
    refine q_asgQ (go_sortI (nss := []) (dd := 1) (H := H1) (fun H2 e2 Q q' => ⟨_, rfl, _, rfl, _, rfl, a, .ref r, rfl, (L1.mono e2).count, (L1.mono e2).ties, (L1.mono e2).turns, fun l H3 n3 e3 hl3 => ⟨a, _, rfl, ((L1.mono e2).mono e3).turns, fun D H4 e4 hD => ⟨D, [], rfl, hD, fun p hp => q' p [] _ ((e3.trans e4).trans (Ex.new hp)) upd_same .nil⟩⟩⟩) (by decide) (fun ns hn => nomatch hn) (Ex.refl H1) fun p2 ys2 mss H2 n2 e2 hl2 ty2 pm _ => ?_)
    have em := List.Perm.eq_nil pm
    subst em
    cases ty2.inv0
    have e12 := e1.trans e2
    have L2' := L.mono e12
    -- no pieces
    refine q_asgQ (⟨_, rfl, (eds_it (α := Nat) (te := tVar 8) (tt := tB (tOp (rIxL K) (tVar 4) (tVar 8))) (vs := [8]) (g := gName 8) (enc := fun _ => .none) (es := []) (fun _ => true) (fun _ => .none) (ei_rng (m := 0) (ea_cons (ev_lenE (ev_var (i := 0) rfl) L2'.ties W.cl W.ties) ea_nil) (by decide)) (by decide) fun _ m => nomatch m) H2 (Ex.refl _) _ fun p3 xs3 H3 n3 e3 hl3 y3 => ?_⟩)
    cases y3.inv0
    refine ⟨_, p3, rfl, hl3, fun v4 H4 e4 x4 => ?_⟩
    have e14 := e12.trans (e3.trans e4)
    have L4 := L.mono e14
    have hs4 := e14 _ _ hs
    have hr4 := e14 _ _ hr0
    -- the lone points
    refine q_asgDs (eds_it (te := tVar 9) (vs := [9]) (g := gName 9) (enc := fun i : Nat => .int (i : Int)) (es := List.range S.length) (fun k => bs.getD k false) (fun i => .int (i : Int)) (ei_rng (m := S.length) (ea_cons (ev_lenD (n := S.length) (ev_var (i := 0) rfl) L4.spots W.cl W.spots (by rw [List.length_map])) ea_nil) (by omega)) (by rw [List.length_range]; omega) fun k hk => turn_nm (fun _ => rfl) (fun v H5 e5 x => ?_) fun v H5 e5 x _ => ed_var rfl x) fun l7 xs7 H7 e7 n7 hl7 y7 => ?_
    · cases x.int
      have hkn := List.mem_range.mp hk
      have hbk : bs[k]? = some (bs.getD k false) := by
        rw [List.getD_eq_getElem?_getD, List.getElem?_eq_getElem (by omega)]
        rfl
      refine et_is (et_and (a := bs.getD k false) (b := true) (et_B (ev_op (ev_var (i := 1) rfl) (ev_var (i := 9) rfl) (rv_ixL (SqL.of (e5 _ _ hs4)) (atI_nat (by rw [List.getElem?_map, hbk]; rfl))))) fun _ => et_B (ev_call (ea_cons (ev_var (i := 0) rfl) (ea_cons (ev_var (i := 9) rfl) (ea_cons (ev_var (i := 4) rfl) (ea_cons (ev_var (i := 3) rfl) ea_nil)))) fun H6 e6 Q q' E => ⟨a, r, _, S, k, rfl, L4.mono (e5.trans e6), hkn, (e5.trans e6) _ _ hr4, fun H7 e7 => q' H7 e7⟩)) (Bool.and_true _)
    have y7' := y7
    have L7 := L4.mono e7
    refine s_retD (ed_tup (da_cons (ed_tupL (id (eds_lcE (te := tNo) (tt := tYes) (ei_nil (K := K) (ev_var (i := 5) rfl) ((e3.trans (e4.trans e7)) _ _ hl2))))) (da_cons (ed_var (i := 6) rfl (x4.mono e7)) (da_cons (ed_tupL (id (eds_it (te := tOp (rIxL K) (tFld K (tVar 0) "spots") (tVar 9)) (tt := tYes) (vs := [9]) (g := gName 9) (enc := fun i : Nat => .int (i : Int)) (es := (List.range S.length).filter fun k => bs.getD k false) (fun _ => true) (fun k => c3 (S.getD k (0, 0))) (ei_list (ld_of (ev_var (i := 7) rfl) hl7 y7)) (Nat.le_trans (List.length_filter_le _ _) (by rw [List.length_range]; omega)) fun k hk => turn_nm (fun _ => rfl) (fun _ _ _ _ => et_yes) fun v H8 e8 x _ => ?_))) da_nil))) (show 3 ≤ 100000 by decide)) fun v9 H9 e9 x9 => q v9 H9 ((e14.trans e7).trans e9) ?_
    · cases x.int
      have hkn := List.mem_range.mp (List.mem_filter.mp hk).1
      exact ed_fix (ev_var (i := 0) rfl) (L7.mono e8).spots W.cl W.spots (ev_var (i := 9) rfl) (by rw [List.getElem?_map, List.getElem?_eq_getElem hkn, List.getD_eq_getElem?_getD, List.getElem?_eq_getElem hkn]; rfl)
    · rw [filt_all] at x9
      unfold formD sel
      rw [List.map_map]
      exact x9
end
end Q
set_option Elab.async false
set_option linter.all false
set_option maxRecDepth 100000
set_option maxHeartbeats 4000000
/-! a list comprehension of any clauses whose first walk gives nothing -/
namespace DCT
open PySem L2 PySem.Spec PyProof.Rows
section
variable {X : Cx} {elt tg iter : Expr} {ifs : List Expr} {cs : List Comprehension} {scope : Scope} {own : List (Str × Nat)} {pos : Pos} {wi : L2.TI}
/-- the reading: the walk stops at once -/
def tLc0 (wi : L2.TI) : TE := fun σ H Q => wi σ H fun J H1 => ∀ D, H1 D = none → J.stop 0 (upd H1 D (.lst [])) ∧ Q (.ref D) (upd H1 D (.lst []))
theorem turn0 (it acc : Value) (env : Env) : ∃ R : Value → Sem Fin, compTurn (.ListComp elt (⟨tg, iter, ifs, 0⟩ :: cs) scope pos) 0 it acc env = (do
    standAt iter.pos
    match ← pyNext it with
    | none => pure (.done .next)
    | some v => R v) := ⟨_, rfl⟩
theorem loop0 {prog : Program} {w : World} {A : Around} {R : Result → Shared → Prop} {s : Shared} {it acc : Value} {env : Env}
    (h : wpAny (model prog w) A (pyNext it) (fun r s1 => r = none ∧ R (.ok .next) s1) (fun _ _ => False) s) : codeAny (model prog w) A (.compLoop (.ListComp elt (⟨tg, iter, ifs, 0⟩ :: cs) scope pos) 0 it acc env) R s := by
  refine codeAny_loop rfl (fun _ s' => s' = s) (fun n s0 e => ?_) 0 rfl
  subst e
  change wpAny _ A ((compTurn (.ListComp elt (⟨tg, iter, ifs, 0⟩ :: cs) scope pos) 0 it acc env).onRaise (fun x => do noteFrame x env; theTreesLotGoes x)) _ _ s0
  refine wpAny_noted ?_
  obtain ⟨K, e⟩ := turn0 (elt := elt) (tg := tg) (iter := iter) (ifs := ifs) (cs := cs) (scope := scope) (pos := pos) it acc env
  rw [e]
  refine wpAny_bind (wpAny_standAt (wpAny_bind (thnF h ?_)))
  rintro r s1 ⟨rfl, h1⟩
  exact wpAny_pure h1
theorem lc0_core {pins : List (Addr × Obj)} {s : Shared} {σ : L2.St} {H : Hp} {Q : VK} {at_ : Pos} {use : Option (Value → Sem Unit)} {R : Value → Shared → Prop} (cal : X.calm = true) (nd : X.N.Nodup) (I : Inv X pins σ H s) (pI : PI X tg iter wi) (bo : BlkOk X.N X.env.scope scope own)
    (fold : ∀ x, foldedSetIterable iter X.env x = pure x) (h : tLc0 wi σ H Q)
    (behind : ∀ D C s' m H', Inv X pins σ H' s' → Q (.ref D) H' → s'.heap.Ns C m → FpOk X pins H' C → compPost (model X.prog X.w) X.A X.xe use R (.ref D) C (.ok .next) s') :
    wpAny (model X.prog X.w) X.A (comprehension (.ListComp elt (⟨tg, iter, ifs, 0⟩ :: cs) scope pos) scope X.env at_ (newList []) false (eval iter X.env) use) R X.xe s := by
  have clo : ∀ y ∈ scope.names, y.2 = .free → ∃ c, X.env.cells.lookup y.1 = some c := by
    intro y hy e
    exact I.ok.has _ (bo.free y hy e)
  refine wpAny_comprehension_free (use := use) rfl fold (closure_ok clo) bo.kind (fun y hy e => (congrArg some e) ▸ bo.uniq y hy) ?_
  refine thn (pI.run pins s σ H _ I h) ?_
  intro x0 t1 a1
  refine thn a1 ?_
  rintro i0 t2 ⟨it, fp, trk, J, G2, rfl, I2, T, k2, f2, more⟩
  refine wpAny_newObj_type (newEnv_comp ?_) (by show 0 ≤ sizeLine; decide)
  have noD : G2 t2.heap.objs.size = none := I2.hok.fresh (Nat.le_refl _)
  obtain ⟨stop, fine⟩ := more _ noD
  have I3 : Inv X pins σ (upd G2 t2.heap.objs.size (.lst [])) { t2 with heap := t2.heap.push { cls := .type "list", data := .seq ([] : List Value).toArray } } :=
    I2.laid (t' := t2.toks) (fun b o e => Heap.get?_push_of_some _ e) (Nat.le_refl _) ⟨Nat.zero_le _, [], 0, .nil, Heap.get?_push_size _ rfl⟩
  have lt2 : ∀ b ∈ fp, b < t2.heap.objs.size := by
    intro b hb
    obtain ⟨o, e, _⟩ := T.obj _ _ k2 b hb
    exact Heap.lt_size e
  have f3 : ∀ b ∈ fp, FpOk X pins (upd G2 t2.heap.objs.size (.lst [])) b ∧ b < (t2.heap.push { cls := .type "list", data := .seq ([] : List Value).toArray }).objs.size := by
    intro b hb
    have l := lt2 b hb
    obtain ⟨n, rest⟩ := f2 b hb
    refine ⟨⟨by rw [upd_ne (Nat.ne_of_lt l)]; exact n, rest⟩, ?_⟩
    rw [Heap.size_push]
    exact Nat.lt_succ_of_lt l
  have k3 : trk 0 (t2.heap.push { cls := .type "list", data := .seq ([] : List Value).toArray }) := T.keep _ _ _ k2 fun b _ o e => Heap.get?_push_of_some _ e
  have n3 : ∀ b ∈ fp, (upd G2 t2.heap.objs.size (.lst [])) b = none := fun b hb => (f3 b hb).1.1
  have I4 := block_start I3 bo nd f3
  generalize eG : upd G2 t2.heap.objs.size (.lst []) = G3 at I3 I4 stop fine f3 n3
  generalize et : ({ t2 with heap := t2.heap.push { cls := .type "list", data := .seq ([] : List Value).toArray } } : Shared) = t3 at I3 I4 k3
  change codeAny (model X.prog X.w) X.A (.compStart (.ListComp elt (⟨tg, iter, ifs, 0⟩ :: cs) scope pos) 0 (.ref it) (.ref t2.heap.objs.size) (compEnvC scope (cellsFrom (t3.heap.objs.size + 1) scope.names (cloFrom X.env.cells scope.names [])) t3.heap.objs.size X.env))
    (compPost (model X.prog X.w) X.A X.xe use R (.ref t2.heap.objs.size) t3.heap.objs.size) { t3 with heap := pushCells (t3.heap.push { cls := .type "dict", data := .dict #[] }) scope.names }
  have loc : (compEnvC scope (cellsFrom (t3.heap.objs.size + 1) scope.names (cloFrom X.env.cells scope.names [])) t3.heap.objs.size X.env).locals = t3.heap.objs.size := rfl
  have k4 : trk 0 ({ t3 with heap := pushCells (t3.heap.push { cls := .type "dict", data := .dict #[] }) scope.names } : Shared).heap := T.keep _ _ _ (et ▸ k3) fun b _ o e => pushCells_keeps _ _ _ _ (Heap.get?_push_of_some _ e)
  generalize compEnvC scope (cellsFrom (t3.heap.objs.size + 1) scope.names (cloFrom X.env.cells scope.names [])) t3.heap.objs.size X.env = ce at I4 loc ⊢
  generalize ({ t3 with heap := pushCells (t3.heap.push { cls := .type "dict", data := .dict #[] }) scope.names } : Shared) = t4 at I4 k4 ⊢
  refine codeAny_compStart_list (loop0 ?_) (T.self X.A 0 _ _ _ k4 (loop0 ?_))
  all_goals
    refine thnF (T.done (X.blk t3 G3 scope ce fp) rfl rfl rfl cal 0 [] t4 _ G3 (fun _ _ => False) I4 (stays I4 n3) k4 stop) ?_
    rintro r s6 ⟨rfl, I6⟩
    refine ⟨rfl, ?_⟩
    have old := fun b hb => (f3 b hb).1.2
    have I7 : Inv X pins σ G3 s6 := I3.call' (ch := fp) I6.os I6.base I6.hok I6.bare fun b hb => by
      obtain ⟨e1, _, e3, e4, e5⟩ := old b hb
      exact ⟨e3, e1, e4, e5⟩
    have nC : G3 ce.locals = none := I6.free
    obtain ⟨mm, ns, _⟩ := I6.loc
    have ns' : s6.heap.Ns ce.locals mm := ns
    rw [loc] at nC ns'
    exact behind _ _ s6 mm G3 I7 fine ns' (I3.fpOk (Nat.le_refl _) nC)
theorem pe_lc0 (cal : X.calm = true) (nd : X.N.Nodup) (pI : PI X tg iter wi) (bo : BlkOk X.N X.env.scope scope own) (fold : ∀ x, foldedSetIterable iter X.env x = pure x := by intro _; rfl) : PE X (.ListComp elt (⟨tg, iter, ifs, 0⟩ :: cs) scope pos) (tLc0 wi) := by
  constructor
  intro pins s σ H Q I h
  rw [eval_ListComp]
  refine lc0_core cal nd I pI bo fold h ?_
  intro D C s' m H' I' q ns fo
  refine ⟨m, ns, fun h'' sb => ?_⟩
  obtain ⟨f0, f1, f2, f3, f4, f5⟩ := fo
  exact ⟨.ref D, H', I'.turned (t' := s'.toks) (fun b o hb e => (sb.2 b hb).trans e) f0 f1 f3 f4 f5, rfl, q⟩
/-- .. stored in a local name -/
theorem ps_setLc0 {i : Nat} {y : Str} {py spos : Pos} (cal : X.calm = true) (nd : X.N.Nodup) (hy : X.N[i]? = some y) (loc : X.env.scope.names.lookup y = some .local)
    (sw : swapsWith (.ListComp elt (⟨tg, iter, ifs, 0⟩ :: cs) scope pos) (some (.Name y py)) spos.line X.env = pure true) (pI : PI X tg iter wi) (bo : BlkOk X.N X.env.scope scope own)
    (fold : ∀ x, foldedSetIterable iter X.env x = pure x := by intro _; rfl) : PS X (.Assign [.Name y py] (.ListComp elt (⟨tg, iter, ifs, 0⟩ :: cs) scope pos) spos) (tAsg (tLc0 wi) (gName i)) := by
  constructor
  intro pins s σ H D I h
  rw [exec_Assign_Name_used _ _ _ _ sw]
  refine wpAny_bind (wpAny_standAt (wpAny_bind ?_))
  have h1 : tLc0 wi σ H (fun x H1 => gName i x σ H1 D.nx) := h
  refine wpAny_bind (thn (lc0_core (R := fun _ s' => SP X pins D .next s') cal nd I pI bo fold h1 ?_) fun _ s' e => wpAny_pure (wpAny_pure e))
  intro L C s' m H' I' q ns fo
  change wpAny _ _ (assign (.Name y py) X.env (.ref L)) _ _ _
  refine wpAny_assign_Name (store_ok2 (v := V.ref L) I' nd hy (.inl loc) rfl ?_ (.inr loc))
  rintro s2 I2 ⟨a, sb, ha⟩
  obtain ⟨f0, f1, f2, f3, f4, f5⟩ := fo
  have ne : C ≠ a := by
    rcases ha with rfl | z
    · exact f1
    · exact Ne.symm (f4 y a z)
  exact ⟨m, ns.sameBut sb ne, fun h3 sb3 => ⟨_, H', I2.turned (t' := s2.toks) (fun b o hb e => (sb3.2 b hb).trans e) f0 f1 f3 f4 f5, q⟩⟩
end
end DCT
namespace Q
open PySem L2 PySem.Spec PyProof.Rows PySem.Calls PySem.OwnX
open Evl
theorem eds_lc0 {σ : L2.St} {H : Hp} {wi : L2.TI} (h : EvI wi σ H []) : EvDs (DCT.tLc0 wi) σ H [] := fun H0 e0 Q q => h H0 e0 _ fun J H1 e1 dw D hD => by
  obtain ⟨G, Y, w, hG, _⟩ := dw.ex
  exact ⟨w.stops _ (hG _ (Ex.new hD)), q D [] _ (fresh_back e1 hD) (e1.trans (Ex.new hD)) upd_same .nil⟩
end Q
set_option Elab.async false
set_option linter.all false
set_option maxRecDepth 100000
set_option maxHeartbeats 4000000
/-! sizes; sides of rings; the limit -/
namespace Q
open PySem L2 PySem.Spec PyProof.Rows PySem.Calls PySem.OwnX
open Evl
abbrev sCTS : Stmt := top 89
/-- too many are refused -/
def spCTS (CM : Addr) : Sp := fun vs H Q E => ∃ n : Nat, vs = [.int (n : Int)] ∧ ((200 < n ∧ Rz CM "limit" E H (.int 200)) ∨ (n ≤ 200 ∧ ∀ H', Ex H H' → Q .non H'))
theorem atI_neg1 {α : Type} {xs : List α} {v : α} (h0 : 0 < xs.length) (h : xs[xs.length - 1]? = some v) : atI xs (-1) = some v := by
  have e : ixN xs.length (-1) = some (xs.length - 1) := by
    unfold ixN
    rw [if_neg (by omega), if_pos (by omega)]
    congr 1
    omega
  unfold atI
  rw [e]
  exact h
section
variable {P : Program} {w : World} {K : PySem.W.Frag} {mg : Str → Option Value} {base : Heap} {CM : Addr}
abbrev nmTSize : List Str := ["areas", "pieces", "points", "rings", "ring"]
theorem scTSize : FnScope nmTSize ["areas", "pieces", "points"] (defScope sTSize) := ⟨rfl, rfl, rfl, by decide +kernel, rfl, by decide +kernel, by decide +kernel⟩
theorem ok_tsize {f : Addr} {fd : FuncData} (F : Fun K "told_size" "told_size" sTSize f fd) (T : TN mg) (T2 : TN2 mg) : FnOk P w K mg base CX0 1 f fd ["areas", "pieces", "points"] spTSize := by
  refine F.ok scTSize (fun vs H Q E h => ?_) (fun cdv A' outer s H vs Q E hr h => ?_)
  · obtain ⟨a, b, c, As, Pp, ps, rfl, _⟩ := h
    rfl
  · obtain ⟨a, b, c, As, Pp, ps, rfl, t, q⟩ := h
    refine ⟨_, (pss_one (ps_ret (pe_op op_add (pe_op op_add (pe_callB (cr_sum rfl) (by rfl) T2.sum (by decide +kernel) (pa_cons (pe_lc2 (own := [("rings", 3), ("ring", 4)]) (vs1 := [4]) (g := gName 3) (g1 := gName 4) (by rfl) scTSize.nd (pi_tup (pv 0)) (blkOk_by (own := [("rings", 3), ("ring", 4)]) (N := nmTSize) (sc := defScope sTSize) (by decide +kernel)) (by decide) (fun _ _ _ _ _ => by exact (pg_name (i := 3) scTSize.nd rfl (Or.inl rfl))) (fun _ _ _ _ _ => pts_nil) (wi1 := iTup K (tVar 3)) (fun _ _ _ _ _ => by exact (pi_tup (pv 3))) (fun _ _ _ _ _ => by exact (pg_name (i := 4) scTSize.nd rfl (Or.inl rfl))) (fun _ _ _ _ _ => pts_nil) (te := tCB (rLenS K) (tCons (tVar 4) tNil)) (fun _ _ _ _ _ => by exact (pe_callB call_len_seq (by rfl) T.len PySem.boot_len (by exact (pa_cons (pv 4) pa_nil))))) pa_nil)) (pe_callB call_len_seq (by rfl) T.len PySem.boot_len (pa_cons (pv 1) pa_nil))) (pe_callB call_len_seq (by rfl) T.len PySem.boot_len (pa_cons (pv 2) pa_nil))))), ?_⟩
    have z := eds_it2 (te := tCB (rLenS K) (tCons (tVar 4) tNil)) (σ := [some a, some b, some c, none, none]) (H := H) (wi := iTup K (tVar 0)) (g := gName 3) (wi1 := iTup K (tVar 3)) (g1 := gName 4) (tt1 := tYes) (vs := [3, 4]) (vs1 := [4]) (es := As) (enc := areaD) (enc1 := ringD) (sub := fun rs => rs) (p1 := fun _ _ => true) (F1 := fun _ r => .int (r.length : Int)) (ei_tup (ed_var (i := 0) rfl t.a)) (Nat.le_trans t.na (by decide)) (fun rs m => (t.nr rs m).1) fun rs m => by
      intro v H3 e3 x kk kq
      refine kq _ H3 (Ex.refl _) rfl (em_tup (ed_var (i := 3) rfl x)) fun r hr' H4 tk => turn_nm (fun _ => rfl) (fun _ _ _ _ => et_yes) fun z H5 e5 xz _ => ?_
      exact ed_int (ev_is (ev_lenTup (ed_var (i := 4) rfl xz)) (by rw [List.length_map]))
    have e : (As.flatMap fun rs => (rs.filter fun _ => true).map fun r => PyData.int (r.length : Int)) = ((As.flatMap fun rs => rs.map List.length).map fun n : Nat => (n : Int)).map PyData.int := by
      rw [List.map_flatMap, List.map_flatMap]
      congr 1
      funext rs
      rw [filt_all, List.map_map, List.map_map]
      rfl
    rw [e] at z
    refine s_ret (ev_is (ev_op (ev_op (ev_sumI z) (ev_is (ev_lenTup (ed_var (i := 1) rfl t.b)) (by rw [List.length_map])) rv_I0) (ev_is (ev_lenTup (ed_var (i := 2) rfl t.c)) (by rw [List.length_map])) rv_I0) ?_) fun H1 e1 => q H1 e1
    rw [sum_cast]
    congr 1
abbrev nmRS : List Str := ["ring", "index"]
theorem scRS : FnScope nmRS ["ring"] (defScope sRS) := ⟨rfl, rfl, rfl, by decide +kernel, rfl, by decide +kernel, by decide +kernel⟩
theorem ok_rs {f : Addr} {fd : FuncData} (F : Fun K "ring_sides" "ring_sides" sRS f fd) (T : TN mg) : FnOk P w K mg base CX0 1 f fd ["ring"] spRS := by
  refine F.ok scRS (fun vs H Q E h => ?_) (fun cdv A' outer s H vs Q E hr h => ?_)
  · obtain ⟨v, ds, rfl, _⟩ := h
    rfl
  · obtain ⟨v, ds, rfl, t, hz, q⟩ := h
    refine ⟨_, (pss_one (ps_ret (pe_lc (own := [("index", 1)]) (g := gName 1) (by rfl) scRS.nd (pi_range1 (by rfl) T.range (pa_cons (pe_callB call_len_seq (by rfl) T.len PySem.boot_len (pa_cons (pv 0) pa_nil)) pa_nil))
        (blkOk_by (own := [("index", 1)]) (N := nmRS) (sc := defScope sRS) (by decide +kernel))
        (fun _ _ _ _ _ => by exact (pg_name (i := 1) scRS.nd rfl (Or.inl rfl))) (fun _ _ _ _ _ => pts_nil)
        (te := (tTup (tCons (tOp (rIxT K) (tVar 0) (tOp (rI0 fun i j => .int (i - j)) (tVar 1) (tC (.int 1)))) (tCons (tOp (rIxT K) (tVar 0) (tVar 1)) tNil)))) (fun _ _ _ _ _ => by exact (pe_tup (by exact (pa_cons (pe_ix ix_tup (pv 0) (pe_op op_sub (pv 1) pe_int) (fun _ _ => rfl)) (pa_cons (pe_ix ix_tup (pv 0) (pv 1) (fun _ _ => rfl)) pa_nil)))))))), ?_⟩
    have mk : ∀ i, i < ds.length → ∀ u H1, Ex H H1 → TD1 H1 u (.int (i : Int)) → EvD (tTup (tCons (tOp (rIxT K) (tVar 0) (tOp (rI0 fun i j => .int (i - j)) (tVar 1) (tC (.int 1)))) (tCons (tOp (rIxT K) (tVar 0) (tVar 1)) tNil))) [some v, some u] H1 (.tuple [ds.getD ((i + ds.length - 1) % ds.length) .none, ds.getD i .none]) := fun i hi u H1 e1 xu => by
      cases xu.int
      have t1 := t.mono e1
      obtain ⟨a, xs, rfl, ha, tx⟩ := t1.tup
      have ln := tx.len
      have hm : (i + ds.length - 1) % ds.length < ds.length := Nat.mod_lt _ (by omega)
      have g1 : ds[(i + ds.length - 1) % ds.length]? = some (ds.getD ((i + ds.length - 1) % ds.length) .none) := by
        rw [List.getD_eq_getElem?_getD, List.getElem?_eq_getElem hm]
        rfl
      have g2 : ds[i]? = some (ds.getD i .none) := by
        rw [List.getD_eq_getElem?_getD, List.getElem?_eq_getElem hi]
        rfl
      obtain ⟨x1, h1, p1⟩ := tx.at g1
      obtain ⟨x2, h2, p2⟩ := tx.at g2
      have a1 : atI xs ((i : Int) - 1) = some x1 := by
        by_cases z : i = 0
        · subst z
          have em : (0 + ds.length - 1) % ds.length = ds.length - 1 := by
            rw [Nat.zero_add]
            exact Nat.mod_eq_of_lt (by omega)
          rw [em] at h1
          exact atI_neg1 (by omega) (by rw [ln]; exact h1)
        · have em : (i + ds.length - 1) % ds.length = i - 1 := by
            rw [show i + ds.length - 1 = (i - 1) + ds.length by omega, Nat.add_mod_right]
            exact Nat.mod_eq_of_lt (by omega)
          rw [em] at h1
          have e : ((i : Int) - 1) = ((i - 1 : Nat) : Int) := by omega
          rw [e]
          exact atI_nat h1
      exact ed_tup (da_cons (ed_of (ev_op (ev_var (i := 0) rfl) (ev_op (ev_var (i := 1) rfl) ev_c rv_I0) (rv_ixT (SqT.of ha) a1)) p1) (da_cons (ed_of (ev_op (ev_var (i := 0) rfl) (ev_var (i := 1) rfl) (rv_ixT (SqT.of ha) (atI_nat h2))) p2) da_nil)) (by show 2 ≤ 100000; decide)
    refine s_retDs (eds_it (te := tTup (tCons (tOp (rIxT K) (tVar 0) (tOp (rI0 fun i j => .int (i - j)) (tVar 1) (tC (.int 1)))) (tCons (tOp (rIxT K) (tVar 0) (tVar 1)) tNil))) (tt := tYes) (vs := [1]) (g := gName 1) (enc := fun i : Nat => .int (i : Int)) (es := List.range ds.length) (fun _ => true) (fun i => .tuple [ds.getD ((i + ds.length - 1) % ds.length) .none, ds.getD i .none]) (ei_rng (m := ds.length) (ea_cons (ev_lenTup (ed_var (i := 0) rfl t)) ea_nil) (by omega)) (by rw [List.length_range]; omega) fun i hi => turn_nm (fun _ => rfl) (fun _ _ _ _ => et_yes) fun u H1 e1 xu _ => mk i (List.mem_range.mp hi) u H1 e1 xu) fun l xs H1 hl e1 h1 tx => q l xs H1 hl e1 h1 ?_
    rw [filt_all] at tx
    exact tx
abbrev nmCTS : List Str := ["count"]
theorem scCTS : FnScope nmCTS ["count"] (defScope sCTS) := ⟨rfl, rfl, rfl, by decide +kernel, rfl, by decide +kernel, by decide +kernel⟩
theorem ok_cts {f : Addr} {fd : FuncData} {t2 : Tok} (F : Fun K "check_told_size" "check_told_size" sCTS f fd) (g200 : mg "MAX_TOLD" = some (.int 200 t2)) (M : NumE "TooMany" "limit" P w K mg CM) : FnOk P w K mg base (L2.CX P w) 2 f fd ["count"] (spCTS CM) := by
  obtain ⟨fI, newId, B, tl, tM, ⟨q0, m0, bM⟩, hM, kM⟩ := M.t
  refine F.okX scCTS (fun vs H Q E h => ?_) (fun cdv A' outer s H vs Q E hr h => ?_)
  · obtain ⟨n, rfl, _⟩ := h
    rfl
  · obtain ⟨n, rfl, h⟩ := h
    refine ⟨_, (pss_one (ps_if (pt_cmpR op_gt (pv 0) (pe_glob (v := .int 200) (by rfl) g200 ⟨_, rfl⟩) (nomark _)) (pss_one (ps_raise (W := fun cls d _ H => E cls d H) rfl (takes_of rfl rfl rfl rfl) (pmk_keep bM hM tM M.g (by decide) kM hr (by exact (pa_cons (pe_glob (v := .int 200) (by rfl) g200 ⟨_, rfl⟩) pa_nil))))) pss_nil)), ?_⟩
    have gt : EvT (tTest (tOp rGt (tVar 0) (tC (.int 200)))) [some (.int (n : Int))] H (decide ((n : Int) > 200)) := et_test (ev_op (ev_var rfl) ev_c rv_I0)
    rcases h with ⟨hl, q⟩ | ⟨hl, q⟩
    · rw [decide_eq_true (by omega)] at gt
      exact s_when gt (fun _ H1 e1 => ⟨rfl, fun d hd => q d _ upd_same (e1.trans (Ex.new hd))⟩) fun z => nomatch z
    · rw [decide_eq_false (by omega)] at gt
      exact s_when gt (fun z => nomatch z) fun _ H1 e1 => q H1 e1
end
end Q
set_option Elab.async false
set_option linter.all false
set_option maxRecDepth 100000
set_option maxHeartbeats 4000000
/-! enumerate of a tuple -/
namespace En
open PySem
open PySem.Sem (wp)
theorem meets1 {v : Value} {ob : Obj} {G : Heap → Prop} (B : Begins v ob G) :
    Meets (Builtin.«enumerate.__new__» ⟨[.type "enumerate", v], []⟩) (fun _ R s => G s.heap ∧
      R (.ok (.ret (.ref (s.heap.push ob).objs.size))) { s with heap := (s.heap.push ob).push { cls := .type "enumerate", data := .fields #[.none, .bool false, .ref s.heap.objs.size, rawInt 0, .none, .none] } }) :=
  .of_wp fun prog w A R s hz => by
    obtain ⟨hq, ge, dr, tk, os⟩ := s
    obtain ⟨g1, hz⟩ := hz
    have subE := sub_enumerate
    have go : ∀ {A' : Around} {E : Value → Shared → Prop} {Q : Value → Shared → Prop}, Q (.ref hq.objs.size) ⟨hq.push ob, ge, dr, tk, os⟩ → wpAny (model prog w) A' (pyIter v) Q E ⟨hq, ge, dr, tk, os⟩ :=
      fun q => B.iter prog w _ _ ⟨hq, ge, dr, tk, os⟩ _ g1 q
    wp_walk using go
    refine wpAny_stack_any fun st => wpAny_pure ?_
    split
    · rename_i c _ _ _ _ _
      cases (c == Value.type "enumerate")
      · wp_walk using go
        exact ⟨_, rfl, hz⟩
      · wp_walk using go
        exact ⟨_, rfl, hz⟩
    · wp_walk using go
      exact ⟨_, rfl, hz⟩
section
variable {prog : Program} {w : World} {A : Around} {E : Value → Shared → Prop} {s : Shared}
theorem begins1 {v : Value} {ob : Obj} {G : Heap → Prop} {Q : Value → Shared → Prop} (B : Begins v ob G) (g1 : G s.heap)
    (hz : ∀ h', IsEnum h' (s.heap.objs.size + 1) s.heap.objs.size 0 .none → h'.get? s.heap.objs.size = some ob →
      (∀ b u, s.heap.get? b = some u → h'.get? b = some u) → Q (.ref (s.heap.objs.size + 1)) { s with heap := h' }) :
    wpAny (model prog w) A (call (.type "enumerate") [v]) Q E s := by
  refine callType_new F.called_enumerate (by decide) (F.typeCall_enumerate_1 _) (F.newCall_enumerate_1 _) (fun ob => F.args_object_init_2 ob _) F.entry_enumerate_new (meets1 B) ⟨g1, ?_⟩
  have sz : (s.heap.push ob).objs.size = s.heap.objs.size + 1 := Heap.size_push ..
  show _ ∧ _
  rw [sz]
  have he : IsEnum ((s.heap.push ob).push { cls := .type "enumerate", data := .fields #[.none, .bool false, .ref s.heap.objs.size, rawInt 0, .none, .none] }) (s.heap.objs.size + 1) s.heap.objs.size 0 .none := by
    have z := Heap.get?_push_size (s.heap.push ob) (o := { cls := .type "enumerate", data := .fields #[.none, .bool false, .ref s.heap.objs.size, rawInt 0, .none, .none] }) rfl
    rw [sz] at z
    exact z
  exact ⟨⟨_, he, rfl⟩, hz _ he (Heap.get?_push_of_some _ (Heap.get?_push_size _ B.free)) fun b u x => Heap.get?_push_of_some _ (Heap.get?_push_of_some _ x)⟩
end
theorem apart {h : Heap} {it a : Addr} {i : Nat} {xs : Array Value} (x : h.IsTupleIter it a i) (y : h.IsTuple a xs) : a ≠ it := fun z => by
  subst z
  obtain ⟨o, h1, h2, _⟩ := x
  obtain ⟨u, k1, k2, _⟩ := y
  rw [h1] at k1
  cases k1
  rw [h2] at k2
  exact absurd (Value.type.inj k2) (by decide)
theorem apartE {h : Heap} {e it a : Addr} {i : Int} {old : Value} {xs : Array Value} (x : IsEnum h e it i old) (y : h.IsTuple a xs) : e ≠ a := fun z => by
  subst z
  obtain ⟨u, k1, k2, _⟩ := y
  rw [show h.get? e = _ from x] at k1
  cases k1
  exact absurd (Value.type.inj k2) (by decide)
section
variable {prog : Program} {w : World} {A : Around} {E : Value → Shared → Prop} {s : Shared}
theorem over {e it a : Addr} {i : Nat} {xs : Array Value} {j : Int} {old : Value} {Q : Option Value → Shared → Prop} (hh : A.handled = none) (he : IsEnum s.heap e it j old) (hit : s.heap.IsTupleIter it a i) (hx : s.heap.IsTuple a xs) (hn : xs[i]? = none)
    (hQ : ∀ h', Heap.ExtBut it s.heap h' → Q none { s with heap := h' }) : wpAny (model prog w) A (pyNext (.ref e)) Q E s := by
  have hT : s.TypeIs (.ref e) "enumerate" := ⟨_, he, rfl⟩
  have h1 : A.in1.handled = none := hh
  unfold pyNext
  refine wpAny_bind (wpAny_attempt (wpAny_callSpecial?_slot (name := Str.ofString "__next__") hT F.slot_enumerate_next (wpAny_call_entry F.slot_enumerate_next hT F.entry_enumerate_next ?_ (F.args_enumerate_next_1 _))))
  show wpAny _ _ (field (.ref e) 2 >>= _) _ _ _
  refine wpAny_bind (wpAny_field he rfl (x := .ref it) rfl ?_)
  refine wpAny_bind (wpAny_nextOf_tuple_end h1 hit hx hn fun h2 y e2 z => ?_)
  obtain ⟨u, hu, uc⟩ := z
  refine wpAny_bind (wpAny_isInstance (T := "StopIteration") (b := true) ⟨u, hu, uc⟩ isSubtype_stop ?_)
  exact wpAny_pure (hQ _ e2)
end
end En
namespace L2
open PySem PySem.Spec PyProof.Rows
/-- the tuple at a, each item in a new pair with its number -/
def IteT (K : PySem.W.Frag) (a : Addr) : It :=
  ⟨fun i G => ∃ (zs : List V) (x : V), SqT K G a zs ∧ zs[i]? = some x, fun i G v G' => ∃ T x, v = .ref T ∧ G T = none ∧ G' = upd G T (.tup [.int (i : Nat), x]) ∧ ∀ zs, SqT K G a zs → zs[i]? = some x, fun i G => ∃ zs : List V, SqT K G a zs ∧ zs.length ≤ i⟩
theorem turn_enumT {P : Program} {w : World} {K : PySem.W.Frag} {elts : List Expr} {kk : Nat} {tp : Pos} (a e it : Addr) :
    Turn P w K (.Tuple elts kk tp) (IteT K a) [e, it] e (fun i h => (∃ old, IsEnum h e it ((i : Nat) : Int) old) ∧ h.IsTupleIter it a i ∧ e ≠ it) where
  mem := by simp
  obj := fun i h st b hb => by
    obtain ⟨⟨old, he⟩, ⟨u, hu, uc, ud⟩, _⟩ := st
    have e2 : b = e ∨ b = it := by simpa using hb
    rcases e2 with z | z
    · rw [z]
      exact ⟨_, he, fun v q => nomatch q⟩
    · rw [z]
      exact ⟨u, hu, fun v q => by rw [ud] at q; cases q⟩
  keep := fun i h h' st k => ⟨let ⟨old, he⟩ := st.1; ⟨old, k e (by simp) _ he⟩, st.2.1.at fun u q => k it (by simp) u q, st.2.2⟩
  item := by
    intro X hP hw hK hc i pins s σ G E I hf st hg
    subst hP
    subst hw
    subst hK
    obtain ⟨⟨old, he⟩, hit, hne⟩ := st
    obtain ⟨zs, x, hq, hx⟩ := hg
    obtain ⟨its, rv, p, hz⟩ := I.tuple hq
    obtain ⟨u, hu, ru⟩ := rv.get hx
    have hel : e < s.heap.objs.size := Heap.lt_size he
    have hil : it < s.heap.objs.size := by
      obtain ⟨_, q, _⟩ := hit
      exact Heap.lt_size q
    have pt : s.heap.IsTuple a its.toArray := p
    have na := En.apart hit pt
    have hh : X.A.in1.handled = none := I.ok.hd hc
    have lt : i < its.toArray.size := by
      have := (List.getElem?_eq_some_iff.mp hu).1
      simpa using this
    refine wpAny_pyNext_enum_itemD (Draws.tuple hh it a na its.toArray) he ⟨hit, pt⟩ lt hne (by simpa using ⟨hne, En.apartE he pt⟩) fun y h' tk hP ho hst hT hsz hk => ?_
    have ey : y = u := by
      have z : its.toArray[i]? = some y := hP
      have z2 : its[i]? = some y := by simpa using z
      rw [hu] at z2
      exact (Option.some.inj z2).symm
    subst ey
    refine ⟨_, rfl, wpAny_letOwnedTupleGo_enum (s := { s with heap := h', toks := tk + 1 }) ho fun h2 he2 sb => ?_⟩
    have hT2 : h2.get? s.heap.objs.size = some { cls := .type "tuple", data := .seq #[.int i tk, y] } := (sb.2 _ (Nat.ne_of_gt hel)).trans hT
    have new : ObjOk X.prog X.w (upd G s.heap.objs.size (.tup [.int (i : Nat), x])) h2 s.heap.objs.size (.tup [.int (i : Nat), x]) :=
      ⟨by show 2 ≤ sizeLine; decide, [.int i tk, y], .cons ⟨_, rfl⟩ (.cons ru .nil), ⟨_, hT2, rfl, _, rfl⟩⟩
    have I1 : Inv X pins σ (upd G s.heap.objs.size (.tup [.int (i : Nat), x])) { s with heap := h2, toks := tk + 1 } :=
      I.turnedNew (ch := [e, it]) (fun b ob hb q => (sb.2 b (fun z => hb (by simp [z]))).trans (hk b ob (fun z => hb (by simp [z])) (fun z => hb (by simp [z])) q)) hf (Nat.le_refl _) new
    refine ⟨.ref s.heap.objs.size, _, I1, rfl, ⟨_, x, rfl, I.hok.fresh (Nat.le_refl _), rfl, fun ys hy => by rw [I.tuple_inj hy hq]; exact hx⟩, ⟨⟨y, ?_⟩, hst.1.at fun o q => (sb.2 it (Ne.symm hne)).trans q, hne⟩, fun b hb => ?_⟩
    · rw [show ((i + 1 : Nat) : Int) = (i : Int) + 1 by omega]
      exact he2
    · have lb : b < s.heap.objs.size := by
        have e2 : b = e ∨ b = it := by simpa using hb
        rcases e2 with z | z
        · rw [z]
          exact hel
        · rw [z]
          exact hil
      rw [upd_ne (Nat.ne_of_lt lb)]
      exact (hf b hb).1
  done := by
    intro X hP hw hK hc i pins s σ G E I hf st hg
    subst hP
    subst hw
    subst hK
    obtain ⟨⟨old, he⟩, hit, hne⟩ := st
    obtain ⟨zs, hq, hx⟩ := hg
    obtain ⟨its, rv, p, hz⟩ := I.tuple hq
    have pt : s.heap.IsTuple a its.toArray := p
    obtain ⟨f0, f1, f2, f3, f4, f5⟩ := hf it (by simp)
    have hl := rv.length
    exact En.over (I.ok.hd hc) he hit pt (by simp; omega) fun h' eb => ⟨rfl, I.turned (t' := s.toks) (fun b o hb q => eb b o hb q) f0 f1 f3 f4 f5⟩
  self := fun A i s Q E st h => by
    obtain ⟨⟨_, he⟩, _⟩ := st
    exact wpAny_pyIter_enum he h
end L2
set_option Elab.async false
set_option linter.all false
set_option maxRecDepth 100000
set_option maxHeartbeats 4000000
namespace L2
open PySem PySem.Spec PyProof.Rows
def iEnumT (K : PySem.W.Frag) (ta : TA) : TI := fun σ H R => ta σ H fun vs H1 => ∃ a zs, vs = [.ref a] ∧ SqT K H1 a zs ∧ R (IteT K a) H1
theorem pi_enumT {X : Cx} {e : Expr} {ta : TA} {p pos tp : Pos} {elts : List Expr} {kk : Nat} (hg : Gl X "enumerate") (hm : X.mg "enumerate" = none) (ha : PA X [e] ta) (hs : starEach [e] X.env = [(false, eval e X.env)] := by rfl) :
    PI X (.Tuple elts kk tp) (.Call (.Name "enumerate" p) [e] [] pos) (iEnumT X.K ta) := by
  refine ⟨fun pins s σ G R I h => ?_⟩
  refine Call_ (ld_blt I hg hm boot_enumerate (PyProof.Rows.callWith_type1 (thn (ha.run pos pins s σ G _ I h) fun us z ⟨vs, G1, I1, r1, q1⟩ => ?_) hs rfl))
  obtain ⟨a, zs, ex, hq, q⟩ := q1
  subst ex
  cases r1 with
  | cons r rr =>
    cases rr
    cases r
    obtain ⟨its, rv, p2, hz⟩ := I1.tuple hq
    have pt : z.heap.IsTuple a its.toArray := p2
    refine En.begins1 (begins_tuple a its.toArray) pt fun h2 he hit hk => wpAny_pyIter_enum he ?_
    have I2 : Inv X pins σ G1 { z with heap := h2 } := I1.kept (t' := z.toks) hk
    refine ⟨z.heap.objs.size + 1, [z.heap.objs.size + 1, z.heap.objs.size], _, _, G1, rfl, I2, turn_enumT a (z.heap.objs.size + 1) z.heap.objs.size, ⟨⟨.none, he⟩, ⟨_, hit, rfl, rfl⟩, Nat.succ_ne_self _⟩, fun b hb => ?_, q⟩
    have le : z.heap.objs.size ≤ b := by
      have e2 : b = z.heap.objs.size + 1 ∨ b = z.heap.objs.size := by simpa using hb
      rcases e2 with e2 | e2
      · rw [e2]
        exact Nat.le_add_right _ _
      · rw [e2]
        exact Nat.le_refl _
    exact I1.fpOk le (I1.hok.fresh le)
section
variable {K : PySem.W.Frag} {a : Addr} {xs : List V}
theorem walk_enumT : Walk (IteT K a) xs.length (fun H => SqT K H a xs) (YPair (fun i => some (.int (i : Nat))) (fun i => xs[i]?)) := by
  refine ⟨fun i _ hi q => ⟨xs, xs[i], q, by simp [hi]⟩, fun _ q => ⟨xs, q, Nat.le_refl _⟩, fun i G v G' _ q y => ?_⟩
  obtain ⟨T, x, h1, h2, h3, h4⟩ := y
  exact ⟨T, _, x, h1, h2, h3, rfl, h4 xs q⟩
end
end L2
namespace Q
open PySem L2 PySem.Spec PyProof.Rows PySem.Calls
open Evl
theorem dw_enumT {K : PySem.W.Frag} {H1 : Hp} {a : Addr} {xs : List V} {ds : List PyData} (ha : H1 a = some (.tup xs)) (x : TDs H1 xs ds) : DW (IteT K a) H1 (numD ds) := by
  refine ⟨_, _, (by rw [numD_len]; exact x.len ▸ walk_enumT (K := K) (a := a) (xs := xs)), fun H' e => SqT.of (e _ _ ha), fun i v H H' hi e y => ?_⟩
  obtain ⟨T, u, z, rfl, hT, hH, hu, hz⟩ := y
  cases hu
  obtain ⟨d, hd, t⟩ := x.to hz
  obtain ⟨e2, t2⟩ := pair_td (v := .ref T) hT hH (TDs.int (i : Int) .nil) (t.mono e)
  exact ⟨e2, _, numD_at hd, t2⟩
theorem dwm_enumT {K : PySem.W.Frag} {H1 : Hp} {a Dl : Addr} {xs ys : List V} {ds : List PyData} (ha : H1 a = some (.tup xs)) (x : TDs H1 xs ds) (hD : H1 Dl = some (.lst ys)) : DWm Dl (IteT K a) H1 (numD ds) := by
  refine ⟨_, _, (by rw [numD_len]; exact x.len ▸ walk_enumT (K := K) (a := a) (xs := xs)), fun H' e => SqT.of (e.tk hD _ _ ha), fun i v H H' hi e y => ?_⟩
  obtain ⟨T, u, z, rfl, hT, hH, hu, hz⟩ := y
  cases hu
  obtain ⟨d, hd, t⟩ := x.to hz
  obtain ⟨e2, t2⟩ := pair_td (v := .ref T) hT hH (TDs.int (i : Int) .nil) (t.by (e.tk hD))
  exact ⟨e2, _, numD_at hd, t2⟩
section
variable {K : PySem.W.Frag} {σ : L2.St} {H H' : Hp} {ta : TA} {te tl tb : TE} {ds : List PyData}
theorem ei_enumT (h : EvD tl σ H (.tuple ds)) : EvI (iEnumT K (tCons tl tNil)) σ H (numD ds) := fun H1 e R q => h H1 e _ fun v H2 e2 hv => by
  obtain ⟨a, xs, rfl, ha, x⟩ := hv.tup
  exact ⟨a, xs, rfl, SqT.of ha, q _ H2 e2 (dw_enumT ha x)⟩
theorem em_enumT (h : EvD tl σ H (.tuple ds)) : EvIm (iEnumT K (tCons tl tNil)) σ H (numD ds) := fun H1 e Dl ⟨ys, hD⟩ R q => h H1 e _ fun v H2 e2 hv => by
  obtain ⟨a, xs, rfl, ha, x⟩ := hv.tup
  exact ⟨a, xs, rfl, SqT.of ha, q _ H2 e2 (dwm_enumT ha x (e2 _ _ hD))⟩
end
end Q
set_option Elab.async false
set_option linter.all false
set_option maxRecDepth 100000
set_option maxHeartbeats 4000000
/-! the least form of told lone corners; areas and pieces without extent -/
namespace Q
open PySem L2 PySem.Spec PyProof.Rows PySem.Calls PySem.OwnX
open Evl
abbrev sTF : Stmt := top 73
/-- rings and pieces are single points -/
structure Deg (As : List (List (List Pt))) (Pp : List (Pt × Pt)) : Prop where
  a : ∀ rs ∈ As, ∀ r ∈ rs, ∃ n p, r = List.replicate n p
  p : ∀ q ∈ Pp, q.1 = q.2
def spTF : Sp := fun vs H Q _ => ∃ (a b c : V) (As : List (List (List Pt))) (Pp : List (Pt × Pt)) (ps : List Pt), vs = [a, b, c] ∧ Told H a b c As Pp ps ∧ Deg As Pp ∧ PsB (ps ++ Pp.map Prod.fst) ∧ ∀ v S H', Ex H H' → Spots (ps ++ Pp.map Prod.fst) S → TD1 H' v (formD S) → Q v H'
theorem eqv_c3 (p : Int × Int) : PyData.eqv (c3 p) (c3 p) = true := by
  simp [c3, PyData.eqv, PyData.eqvAll]
theorem shp_c3 (p : Int × Int) : SeqAt.shaped (c3 p) = true := by
  unfold SeqAt.shaped
  rw [Bool.and_eq_true]
  exact ⟨rfl, decide_eq_true (by simp [c3, PyData.depth, PyData.depthAll])⟩
theorem sides_rep (n : Nat) (p : Pt) : sidesD ((List.replicate n p).map c3) = List.replicate n (.tuple [c3 p, c3 p]) := by
  unfold sidesD
  rw [List.map_replicate, List.length_replicate]
  refine List.ext_getElem (by simp) fun i h1 h2 => ?_
  have hi : i < n := by simpa using h1
  have hm : (i + n - 1) % n < n := Nat.mod_lt _ (by omega)
  simp [hi, hm]
theorem filt_no {α : Type} (l : List α) : (l.filter fun _ => false) = [] := List.filter_eq_nil_iff.mpr fun _ _ h => nomatch h
theorem numD_zip {α : Type} (f : α → PyData) (es : List α) : numD (es.map f) = ((List.range es.length).zip es).map fun n : Nat × α => PyData.tuple [.int (n.1 : Int), f n.2] := by
  refine List.ext_getElem (by rw [numD_len]; simp) fun i h1 h2 => ?_
  rw [numD_len, List.length_map] at h1
  have z1 := numD_at (ds := es.map f) (i := i) (d := f es[i]) (by rw [List.getElem?_map, List.getElem?_eq_getElem h1]; rfl)
  rw [List.getElem?_eq_getElem (by rw [numD_len, List.length_map]; exact h1)] at z1
  rw [Option.some.inj z1]
  simp
section
variable {K : PySem.W.Frag} {σ : L2.St} {H H2 : Hp} {te tl ta tb : TE} {t : TA} {D : Ends} {tz : TS} {ds es : List PyData} {x dx l : Addr} {o o1 o2 : HO}
theorem made_up (nx : H x = none) (ndx : H dx = none) (ne : dx ≠ x) : Ex H (upd (upd H dx o2) x o1) := (Ex.new ndx).trans (Ex.new (by rw [upd_ne (Ne.symm ne)]; exact nx))
theorem made_ex (nx : H x = none) (ndx : H dx = none) (kp : ∀ l o, l ≠ x → upd (upd H dx o2) x o1 l = some o → H2 l = some o) : Ex H H2 := fun l o hl => by
  have n1 : l ≠ x := fun z => by
    rw [z, nx] at hl
    cases hl
  have n2 : l ≠ dx := fun z => by
    rw [z, ndx] at hl
    cases hl
  refine kp l o n1 ?_
  rw [upd_ne n1, upd_ne n2]
  exact hl
/-- l.extend([]) -/
theorem q_ext0 (ha : Ev ta σ H (.ref l)) (hl : H l = some (.lst [])) (h : EvDs te σ H []) (k : ∀ H1, Ex H H1 → tz D σ H1) : tSeq (tDrop (tBM K "list" rExtend ta (tCons te tNil))) tz D σ H := ha H (Ex.refl H) _ fun H1 e1 =>
  ⟨Or.inl ⟨rfl, [], SqL.of (e1 _ _ hl)⟩, h H1 e1 _ fun p xs H2 np e2 hp y => by
    cases y.inv0
    have z := e2 _ _ (e1 _ _ hl)
    refine ⟨l, p, [], [], rfl, rfl, z, hp, by decide, k _ ((e1.trans e2).trans fun l' o' h' => ?_)⟩
    by_cases c : l' = l
    · subst c
      rw [z] at h'
      rw [upd_same]
      exact h'
    · rw [upd_ne c]
      exact h'⟩
theorem eds_star2 (h1 : EvD ta σ H (.tuple ds)) (h2 : EvDs tb σ H es) (hz : ds.length + es.length ≤ 100000) : EvDs (tLst (StX.tStar K ta (StX.tStar K tb tNil))) σ H (ds ++ es) := fun H1 e1 Q q => h1 H1 e1 _ fun v H2 e2 xv => by
  obtain ⟨p, xs, rfl, hp, tx⟩ := xv.tup
  refine ⟨p, xs, rfl, .inl (SqT.of hp), h2 H2 (e1.trans e2) _ fun l ys H3 nl e3 hl ty => ⟨l, ys, rfl, .inr (SqL.of hl), ?_⟩⟩
  have l1 := tx.len
  have l2 := ty.len
  refine ⟨sz_of (by rw [List.append_nil, List.length_append]; omega), fun r hr => ?_⟩
  have e4 := (e2.trans e3)
  rw [List.append_nil]
  exact q r _ _ (fresh_back e4 hr) (e4.trans (Ex.new hr)) upd_same (((tx.mono e3).app ty).mono (Ex.new hr))
theorem go_tup2 {t1 t2 : TE} {Q : VK} (h : t1 σ H fun x H1 => t2 σ H1 fun y H2 => [x, y].length ≤ sizeLine ∧ ∀ p, H2 p = none → Q (.ref p) (upd H2 p (.tup [x, y]))) : tTup (tCons t1 (tCons t2 tNil)) σ H Q := h
theorem q_asgG {g : TG} (h : te σ H fun v H1 => g v σ H1 (tz D)) : tSeq (tAsg te g) tz D σ H := h
/-- a, b = [], [] -/
theorem go_nn {i j : Nat} (k : ∀ p q H1, Ex H H1 → H1 p = some (.lst []) → H1 q = some (.lst []) → tz D ((σ.set i (some (.ref p))).set j (some (.ref q))) H1) : tSeq (tAsg (tTup (tCons (tLst tNil) (tCons (tLst tNil) tNil))) (gTup K 2 (gCons (gName i) (gCons (gName j) gNil)))) tz D σ H := by
  refine q_asgG (go_tup2 ?_)
  refine (eds_lst (ds := []) da_nil (by decide)) H (Ex.refl _) _ fun p3 xs3 H1 n3 e1 hl3 y3 => ?_
  refine (eds_lst (ds := []) da_nil (by decide)) H1 (Ex.refl _) _ fun p4 xs4 H2 n4 e2 hl4 y4 => ?_
  cases y3.inv0
  cases y4.inv0
  refine ⟨(show 2 ≤ sizeLine by decide), fun t ht => ?_⟩
  have et := Ex.new (o := .tup [.ref p3, .ref p4]) ht
  exact ⟨t, _, rfl, SqT.of upd_same, rfl, _, _, rfl, _, _, rfl, rfl, k p3 p4 _ ((e1.trans e2).trans et) (et _ _ (e2 _ _ hl3)) (et _ _ hl4)⟩
/-- l.extend(m), both empty -/
theorem q_ext00 {l m : Addr} (ha : Ev ta σ H (.ref l)) (hl : H l = some (.lst [])) (h : Ev te σ H (.ref m)) (hm : H m = some (.lst [])) (k : ∀ H1, Ex H H1 → tz D σ H1) : tSeq (tDrop (tBM K "list" rExtend ta (tCons te tNil))) tz D σ H := ha H (Ex.refl H) _ fun H1 e1 =>
  ⟨Or.inl ⟨rfl, [], SqL.of (e1 _ _ hl)⟩, h H1 e1 _ fun H2 e2 => by
    have z := (e1.trans e2) _ _ hl
    refine ⟨l, m, [], [], rfl, rfl, z, (e1.trans e2) _ _ hm, by decide, k _ ((e1.trans e2).trans fun l' o' h' => ?_)⟩
    by_cases c : l' = l
    · subst c
      rw [z] at h'
      rw [upd_same]
      exact h'
    · rw [upd_ne c]
      exact h'⟩
theorem s_ext0 (ha : Ev ta σ H (.ref l)) (hl : H l = some (.lst [])) (h : EvDs te σ H []) (k : ∀ H1, Ex H H1 → D.nx σ H1) : tDrop (tBM K "list" rExtend ta (tCons te tNil)) D σ H := q_ext0 (tz := fun D => D.nx) ha hl h k
theorem ev_neD {d e : PyData} (h1 : EvD ta σ H d) (h2 : EvD tb σ H e) (s1 : SeqAt.shaped d = true) (s2 : SeqAt.shaped e = true) : Ev (tOp (rNeD K) ta tb) σ H (.bl (!PyData.eqv d e)) := fun H1 x Q q =>
  h1 H1 x _ fun u H2 e2 a => h2 H2 (x.trans e2) _ fun v H3 e3 b => ⟨d, e, (a.mono e3).dp, b.dp, s1, s2, q H3 (e2.trans e3)⟩
theorem ev_eqD {d e : PyData} (h1 : EvD ta σ H d) (h2 : EvD tb σ H e) (s1 : SeqAt.shaped d = true) (s2 : SeqAt.shaped e = true) : Ev (tOp (rEqD K) ta tb) σ H (.bl (PyData.eqv d e)) := fun H1 x Q q =>
  h1 H1 x _ fun u H2 e2 a => h2 H2 (x.trans e2) _ fun v H3 e3 b => ⟨d, e, (a.mono e3).dp, b.dp, s1, s2, q H3 (e2.trans e3)⟩
theorem et_ne2 {p : Pt} (h : EvD te σ H (.tuple [c3 p, c3 p])) : EvT (tTest (tOp (rNeD K) (tOp (rIxT K) te (tC (.int 0))) (tOp (rIxT K) te (tC (.int 1))))) σ H false :=
  et_is (et_test (ev_neD (ed_ix h ⟨by decide, rfl⟩) (ed_ix h ⟨by decide, rfl⟩) (shp_c3 p) (shp_c3 p))) (by rw [eqv_c3]; rfl)
theorem et_eq2 {p : Pt} (h : EvD te σ H (.tuple [c3 p, c3 p])) : EvT (tTest (tOp (rEqD K) (tOp (rIxT K) te (tC (.int 0))) (tOp (rIxT K) te (tC (.int 1))))) σ H true :=
  et_is (et_test (ev_eqD (ed_ix h ⟨by decide, rfl⟩) (ed_ix h ⟨by decide, rfl⟩) (shp_c3 p) (shp_c3 p))) (eqv_c3 p)
theorem ed_tpts {E : XK} {r : List Pt} (h : EvD te σ H (.tuple (r.map c2))) (hz : r.length ≤ 1000) : EvD (tCall spTPts [] E (tCons te tNil)) σ H (.tuple (r.map c3)) := fun H1 e Q q => h H1 e _ fun v H2 e2 x => ⟨v, r, rfl, x, hz, fun u H3 e3 y => q u H3 (e2.trans e3) y⟩
theorem eds_rs {E : XK} (h : EvD te σ H (.tuple ds)) (hz : ds.length ≤ 1000) : EvDs (tCall spRS [] E (tCons te tNil)) σ H (sidesD ds) := fun H1 e Q q => h H1 e _ fun v H2 e2 x => ⟨v, ds, rfl, x, hz, fun l xs H3 n e3 hl y => q l xs H3 (fresh_back e2 n) (e2.trans e3) hl y⟩
end
section
variable {P : Program} {w : World} {K : PySem.W.Frag} {mg : Str → Option Value} {base : Heap} {CW : Addr}
abbrev nmTF : List Str := ["areas", "pieces", "points", "sides", "ring_marks", "index", "rings", "told", "ring_count", "ends", "dots", "web", "filled", "told_dots", "piece", "point", "ring", "side", "cover", "spot", "bits"]
theorem scTF : FnScope nmTF ["areas", "pieces", "points"] (defScope sTF) := ⟨rfl, rfl, rfl, by decide +kernel, rfl, by decide +kernel, by decide +kernel⟩
theorem ok_tf {f : Addr} {fd : FuncData} (F : Fun K "told_form" "told_form" sTF f fd) (T : TN mg) (T2 : TN2 mg) (W : WC K mg CW) (CT : Cl P w K mg base 2 "told_points" spTPts) (CR : Cl P w K mg base 1 "ring_sides" spRS) (CF : Cl P w K mg base 1 "flooded" (spFl CW)) (CO : Cl P w K mg base 4 "form_of" (spFm CW)) (MW : Mq P w K mg base 5 "Web" CW (spWI CW)) :
    FnOk P w K mg base CX0 7 f fd ["areas", "pieces", "points"] spTF := by
  refine F.ok scTF (fun vs H Q E h => ?_) (fun cdv A' outer s H vs Q E hr h => ?_)
  · obtain ⟨a, b, c, As, Pp, ps, rfl, _⟩ := h
    rfl
  · obtain ⟨a, b, c, As, Pp, ps, rfl, td, dg, pb, q⟩ := h
    refine ⟨_, (pss_cons (ps_asg (pe_tup (pa_cons (pe_lst pa_nil) (pa_cons (pe_lst pa_nil) pa_nil))) (pg_tup (by rfl) (pgs_cons (pg_name (i := 3) scTF.nd rfl (Or.inl rfl)) (pgs_cons (pg_name (i := 4) scTF.nd rfl (Or.inr rfl)) pgs_nil))))
      (pss_cons (ps_for PassesOwn.never rfl (pi_enumT (by rfl) T2.enum (pa_cons (pv 0) pa_nil)) (pg_tup (by rfl) (pgs_cons (pg_name (i := 5) scTF.nd rfl (Or.inl rfl)) (pgs_cons (pg_name (i := 6) scTF.nd rfl (Or.inl rfl)) pgs_nil)))
        (pss_cons (ps_setLc2 (i := 7) (own := [("ring", 16), ("side", 17)]) (vs1 := [17]) (g := gName 16) (g1 := gName 17) (by rfl) scTF.nd rfl rfl (sw_true rfl rfl rfl (by decide +kernel)) (pi_tup (pv 6)) (blkOk_by (own := [("ring", 16), ("side", 17)]) (N := nmTF) (sc := defScope sTF) (by decide +kernel)) (by decide) (fun _ _ _ _ _ => by exact (pg_name (i := 16) scTF.nd rfl (Or.inl rfl))) (fun _ _ _ _ _ => pts_nil) (wi1 := iList K (tCall spRS [] E0 (tCons (tCall spTPts [] E0 (tCons (tVar 16) tNil)) tNil))) (fun _ _ _ _ _ => by exact (pi_list (pe_cl CR hr (by decide) (by rfl) (pa_cons (pe_cl CT hr (by decide) (by rfl) (pa_cons (pv 16) pa_nil)) pa_nil)))) (fun _ _ _ _ _ => by exact (pg_name (i := 17) scTF.nd rfl (Or.inl rfl))) (tt1 := tTest (tOp (rNeD K) (tOp (rIxT K) (tVar 17) (tC (.int 0))) (tOp (rIxT K) (tVar 17) (tC (.int 1))))) (fun _ _ _ _ _ => by exact (pts_one (pt_cmpR (op_neD hr.units) (pe_ix ix_tup (pv 17) pe_int (fun _ _ => rfl)) (pe_ix ix_tup (pv 17) pe_int (fun _ _ => rfl)) (nomark _)))) (te := tVar 17) (fun _ _ _ _ _ => by exact (pv 17)))
        (pss_cons (ps_expr (pe_bm PySem.F.plainAttrs_list PySem.F.slot_list_extend PySem.F.type_list_extend mt_extend (pv 3) (pa_cons (pv 7) pa_nil)))
        (pss_one (ps_expr (pe_bm PySem.F.plainAttrs_list PySem.F.slot_list_extend PySem.F.type_list_extend mt_extend (pv 4) (pa_cons (pe_op op_rep (pe_lst (pa_cons (pe_op op_shlW pe_int (pv 5)) pa_nil)) (pe_callB call_len_seq (by rfl) T.len PySem.boot_len (pa_cons (pv 7) pa_nil))) pa_nil)))))))
      (pss_cons (ps_set (i := 8) scTF.nd rfl (Or.inr rfl) (pe_callB call_len_seq (by rfl) T.len PySem.boot_len (pa_cons (pv 3) pa_nil)))
      (pss_cons (ps_setLc (i := 9) (own := [("piece", 14)]) (g := gName 14) (by rfl) scTF.nd rfl rfl (sw_true rfl rfl rfl (by decide +kernel)) (pi_tup (pv 1))
        (blkOk_by (own := [("piece", 14)]) (N := nmTF) (sc := defScope sTF) (by decide +kernel))
        (fun _ _ _ _ _ => by exact (pg_name (i := 14) scTF.nd rfl (Or.inl rfl))) (fun _ _ _ _ _ => pts_nil)
        (te := (tCall spTPts [] E0 (tCons (tVar 14) tNil))) (fun _ _ _ _ _ => by exact (pe_cl CT hr (by decide) (by rfl) (by exact (pa_cons (pv 14) pa_nil)))))
      (pss_cons (ps_expr (pe_bm PySem.F.plainAttrs_list PySem.F.slot_list_extend PySem.F.type_list_extend mt_extend (pv 3) (pa_cons (pe_lc (own := [("piece", 14)]) (g := gName 14) (by rfl) scTF.nd (pi_list (pv 9))
        (blkOk_by (own := [("piece", 14)]) (N := nmTF) (sc := defScope sTF) (by decide +kernel))
        (fun _ _ _ _ _ => by exact (pg_name (i := 14) scTF.nd rfl (Or.inl rfl))) (tt := (tTest (tOp (rNeD K) (tOp (rIxT K) (tVar 14) (tC (.int 0))) (tOp (rIxT K) (tVar 14) (tC (.int 1)))))) (fun _ _ _ _ _ => by exact (pts_one (pt_cmpR (op_neD hr.units) (pe_ix ix_tup (pv 14) pe_int (fun _ _ => rfl)) (pe_ix ix_tup (pv 14) pe_int (fun _ _ => rfl)) (nomark _))))
        (te := (tVar 14)) (fun _ _ _ _ _ => by exact (pv 14))) pa_nil)))
      (pss_cons (ps_expr (pe_bm PySem.F.plainAttrs_list PySem.F.slot_list_extend PySem.F.type_list_extend mt_extend (pv 4) (pa_cons (pe_op op_rep (pe_lst (pa_cons (pe_int) pa_nil)) (pe_op op_sub (pe_callB call_len_seq (by rfl) T.len PySem.boot_len (pa_cons (pv 3) pa_nil)) (pv 8))) pa_nil)))
      (pss_cons (ps_set (i := 10) scTF.nd rfl (Or.inl rfl) (pe_lst (StX.pa_star (pe_cl CT hr (by decide) (by rfl) (pa_cons (pv 2) pa_nil)) (StX.pa_star (pe_lc (own := [("piece", 14)]) (g := gName 14) (by rfl) scTF.nd (pi_list (pv 9))
        (blkOk_by (own := [("piece", 14)]) (N := nmTF) (sc := defScope sTF) (by decide +kernel))
        (fun _ _ _ _ _ => by exact (pg_name (i := 14) scTF.nd rfl (Or.inl rfl))) (tt := (tTest (tOp (rEqD K) (tOp (rIxT K) (tVar 14) (tC (.int 0))) (tOp (rIxT K) (tVar 14) (tC (.int 1)))))) (fun _ _ _ _ _ => by exact (pts_one (pt_cmpR (op_eqD hr.units) (pe_ix ix_tup (pv 14) pe_int (fun _ _ => rfl)) (pe_ix ix_tup (pv 14) pe_int (fun _ _ => rfl)) (nomark _))))
        (te := (tOp (rIxT K) (tVar 14) (tC (.int 0)))) (fun _ _ _ _ _ => by exact (pe_ix ix_tup (pv 14) pe_int (fun _ _ => rfl)))) pa_nil))))
      (pss_cons (ps_set (i := 11) scTF.nd rfl (Or.inl rfl) (pe_mq MW hr (by decide) (by rfl) (pa_cons (pv 3) (pa_cons (pv 10) pa_nil))))
      (pss_cons (ps_set (i := 12) scTF.nd rfl (Or.inl rfl) (pe_cl CF hr (by decide) (by rfl) (pa_cons (pv 11) (pa_cons (DCT.pe_lc0 (own := [("cover", 18)]) (by rfl) scTF.nd (pi_list (pe_fld (pv 11) rfl)) (blkOk_by (own := [("cover", 18)]) (N := nmTF) (sc := defScope sTF) (by decide +kernel))) pa_nil))))
      (pss_cons (ps_set (i := 13) scTF.nd rfl (Or.inr rfl) (DCT.pe_dcS (S := DCT.stoT) (o0 := .dT []) (own := [("point", 15)]) (g := gName 15) (by rfl) scTF.nd (pi_list (pv 10)) (blkOk_by (own := [("point", 15)]) (N := nmTF) (sc := defScope sTF) (by decide +kernel)) (fun _ _ _ _ _ => by exact (pg_name (i := 15) scTF.nd rfl (Or.inl rfl))) (fun _ _ _ _ _ => pts_nil) (tk := tVar 15) (fun _ _ _ _ _ => by exact (pv 15)) (tv := tC (.bl true)) (fun _ _ _ _ _ => by exact (pe_bl)) (DCT.runs_in (Nat.lt_of_le_of_lt (Nat.le_add_right _ 63) hr.units)) (fun h H hb => dt_empty h hb)))
      (pss_one (ps_ret (pe_cl CO hr (by decide) (by rfl) (pa_cons (pv 11) (pa_cons (pe_lc (own := [("spot", 19)]) (g := gName 19) (by rfl) scTF.nd (pi_list (pe_fld (pv 11) rfl))
        (blkOk_by (own := [("spot", 19)]) (N := nmTF) (sc := defScope sTF) (by decide +kernel))
        (fun _ _ _ _ _ => by exact (pg_name (i := 19) scTF.nd rfl (Or.inl rfl))) (fun _ _ _ _ _ => pts_nil)
        (te := (tDIn (tVar 19) (tVar 13))) (fun _ _ _ _ _ => by exact (pe_cmp (pc_din (hu_of hr) (pv 19) (pv 13))))) (pa_cons (DCT.pe_lc0 (own := [("cover", 18)]) (by rfl) scTF.nd (pi_list (pe_fld (pv 11) rfl)) (blkOk_by (own := [("cover", 18)]) (N := nmTF) (sc := defScope sTF) (by decide +kernel))) (pa_cons (pe_lc (own := [("bits", 20)]) (g := gName 20) (by rfl) scTF.nd (pi_list (pv 12))
        (blkOk_by (own := [("bits", 20)]) (N := nmTF) (sc := defScope sTF) (by decide +kernel))
        (fun _ _ _ _ _ => by exact (pg_name (i := 20) scTF.nd rfl (Or.inl rfl))) (fun _ _ _ _ _ => pts_nil)
        (te := (tOp rNe (tVar 20) (tC (.int 0)))) (fun _ _ _ _ _ => by exact (pe_cmpR op_ne (pv 20) pe_int (nomark _)))) pa_nil))))))))))))))))), ?_⟩
    refine go_nn fun p3 p4 H2 e12 hl3 hl4 => ?_
    have td := td.mono e12
    have ez : EvI (iEnumT K (tCons (tVar 0) tNil)) [some a, some b, some c, some (.ref p3), some (.ref p4), none, none, none, none, none, none, none, none, none, none, none, none, none, none, none, none] H2 (((List.range As.length).zip As).map fun n : Nat × List (List Pt) => PyData.tuple [.int (n.1 : Int), areaD n.2]) := by
      rw [← numD_zip]
      exact ei_enumT (ed_var (i := 0) rfl td.a)
    refine q_forX (enc := fun n : Nat × List (List Pt) => PyData.tuple [.int (n.1 : Int), areaD n.2]) (es := (List.range As.length).zip As) ez (fun _ σ' => ∃ x5 x6 x7, σ' = [some a, some b, some c, some (.ref p3), some (.ref p4), x5, x6, x7, none, none, none, none, none, none, none, none, none, none, none, none, none]) ⟨_, _, _, rfl⟩ (fun H3 e3 i e x σ' H4 hi hP e4 tx => ?_) fun σ' H3 hP e3 => ?_
    · obtain ⟨n, rs⟩ := e
      obtain ⟨x5, x6, x7, rfl⟩ := hP
      have hzm := List.of_mem_zip (List.mem_of_getElem? hi)
      have hn : n < As.length := List.mem_range.mp hzm.1
      have hrs : rs ∈ As := hzm.2
      have na := td.na
      have e24 := e3.trans e4
      obtain ⟨pa, xs, rfl, hp, y⟩ := tx.tup
      obtain ⟨w1, y1, rfl, z1, y⟩ := y.inv
      obtain ⟨w2, y2, rfl, z2, y⟩ := y.inv
      cases y.inv0
      cases z1.int
      refine ⟨pa, _, rfl, SqT.of hp, rfl, _, _, rfl, _, _, rfl, rfl, ?_⟩
      have hl3 := e24 _ _ hl3
      have hl4 := e24 _ _ hl4
      have nr := td.nr rs hrs
      refine q_asgDs (ds := []) ?_ fun l7 xs7 H5 e5 n7 hl7 y7 => ?_
      · have z := eds_it2 (te := tVar 17) (σ := [some a, some b, some c, some (.ref p3), some (.ref p4), some (.int (n : Int)), some w2, x7, none, none, none, none, none, none, none, none, none, none, none, none, none]) (H := H4) (wi := iTup K (tVar 6)) (g := gName 16) (wi1 := iList K (tCall spRS [] E0 (tCons (tCall spTPts [] E0 (tCons (tVar 16) tNil)) tNil))) (g1 := gName 17) (tt1 := tTest (tOp (rNeD K) (tOp (rIxT K) (tVar 17) (tC (.int 0))) (tOp (rIxT K) (tVar 17) (tC (.int 1))))) (vs := [16, 17]) (vs1 := [17]) (es := rs) (enc := ringD) (enc1 := id) (sub := fun r => sidesD (r.map c3)) (p1 := fun _ _ => false) (F1 := fun _ d => d) (ei_tup (ed_var (i := 6) rfl z2)) (by have := nr.1; omega) (fun r m => by
          unfold sidesD
          rw [List.length_map, List.length_range, List.length_map]
          exact nr.2 r m) fun r m => by
            intro v H5 e5 tv kk kq
            refine kq _ H5 (Ex.refl _) rfl (em_new (by rw [List.map_id]; exact eds_rs (ed_tpts (ed_var (i := 16) rfl tv) (by have := nr.2 r m; omega)) (by rw [List.length_map]; have := nr.2 r m; omega))) fun d hd H6 tk => ?_
            obtain ⟨k, p, rfl⟩ := dg.a rs hrs r m
            have hd : d ∈ sidesD ((List.replicate k p).map c3) := hd
            rw [sides_rep] at hd
            obtain rfl := (List.mem_replicate.mp hd).2
            exact turn_nm (fun _ => rfl) (fun u H7 e7 tu => et_ne2 (p := p) (ed_var (i := 17) rfl tu)) fun u H7 e7 tu h => nomatch h
        have e : (rs.flatMap fun r => ((sidesD (r.map c3)).filter fun _ => false).map fun d : PyData => d) = [] := by
          rw [List.flatMap_eq_nil_iff]
          intro r _
          rw [filt_no]
          rfl
        rw [e] at z
        exact z
      cases y7.inv0
      have hl3 := e5 _ _ hl3
      have hl4 := e5 _ _ hl4
      refine q_ext00 (ev_var (i := 3) rfl) hl3 (ev_var (i := 7) rfl) hl7 fun H6 e6 => ?_
      have hl4 := e6 _ _ hl4
      have hl7 := e6 _ _ hl7
      have sh : CShl 1 (n : Int) := ⟨Int.natCast_nonneg n, by
        have b1 : Builtin.Int.intBits 1 = 1 := by decide +kernel
        rw [b1]
        omega⟩
      have M : Ev (tOp (rI CShl fun i j => .int (i * 2 ^ j.toNat)) (tC (.int 1)) (tVar 5)) [some a, some b, some c, some (.ref p3), some (.ref p4), some (.int (n : Int)), some w2, some (.ref l7), none, none, none, none, none, none, none, none, none, none, none, none, none] H6 (.int (1 * 2 ^ (n : Int).toNat)) := ev_op ev_c (ev_var (i := 5) rfl) fun H1 _ Q q => ⟨1, (n : Int), rfl, rfl, sh, q H1 (Ex.refl _)⟩
      refine s_ext0 (ev_var (i := 4) rfl) hl4 (eds_rep (d := .int (1 * 2 ^ (n : Int).toNat)) (n := 0) (eds_lst (da_cons (ed_int M) da_nil) (show 1 ≤ 100000 by decide)) (fun H' e' => ev_lenSeq (ev_var (i := 7) rfl) (e' _ _ hl7)) (by decide)) fun H7 e7 => ?_
      exact ⟨⟨_, _, _, rfl⟩, (e4.trans (e5.trans (e6.trans e7)))⟩
    obtain ⟨x5, x6, x7, rfl⟩ := hP
    have hl3 := e3 _ _ hl3
    have hl4 := e3 _ _ hl4
    have tb := td.b
    have np := td.np
    have nc := td.nc
    refine q_asg (ev_lenSeq (ev_var (i := 3) rfl) hl3) fun H4 e4 => ?_
    have hl3 := e4 _ _ hl3
    have hl4 := e4 _ _ hl4
    have e34 := e3.trans e4
    refine q_asgDs (ds := Pp.map fun q : Pt × Pt => PyData.tuple [c3 q.1, c3 q.2]) ?_ fun p9 xs9 H5 e5 n9 hl9 y9 => ?_
    · have z := eds_it (te := tCall spTPts [] E0 (tCons (tVar 14) tNil)) (σ := [some a, some b, some c, some (.ref p3), some (.ref p4), x5, x6, x7, some (.int 0), none, none, none, none, none, none, none, none, none, none, none, none]) (tt := tYes) (vs := [14]) (g := gName 14) (enc := pieceD) (es := Pp) (fun _ => true) (fun q : Pt × Pt => PyData.tuple [c3 q.1, c3 q.2]) (ei_tup (K := K) (ed_var (i := 1) rfl (tb.mono e34))) (by omega) fun q hq => turn_nm (fun _ => rfl) (fun _ _ _ _ => et_yes) fun v H5 e5 tv _ => ed_tpts (r := [q.1, q.2]) (ed_var (i := 14) rfl tv) (show 2 ≤ 1000 by decide)
      rw [filt_all] at z
      exact z
    have hl3 := e5 _ _ hl3
    have hl4 := e5 _ _ hl4
    refine q_ext0 (ev_var (i := 3) rfl) hl3 ?_ fun H6 e6 => ?_
    · have z := eds_it (te := tVar 14) (σ := [some a, some b, some c, some (.ref p3), some (.ref p4), x5, x6, x7, some (.int 0), some (.ref p9), none, none, none, none, none, none, none, none, none, none, none]) (tt := tTest (tOp (rNeD K) (tOp (rIxT K) (tVar 14) (tC (.int 0))) (tOp (rIxT K) (tVar 14) (tC (.int 1))))) (vs := [14]) (g := gName 14) (enc := fun q : Pt × Pt => PyData.tuple [c3 q.1, c3 q.2]) (es := Pp) (fun _ => false) (fun _ => PyData.none) (ei_list (K := K) (ld_of (ev_var (i := 9) rfl) hl9 y9)) (by omega) fun q hq => turn_nm (fun _ => rfl) (fun v H6 e6 tv => et_ne2 (p := q.2) (by
        have z := ed_var (i := 14) (σ := (wipe [some a, some b, some c, some (.ref p3), some (.ref p4), x5, x6, x7, some (.int 0), some (.ref p9), none, none, none, none, none, none, none, none, none, none, none] [14]).set 14 (some v)) rfl tv
        rw [dg.p q hq] at z
        exact z)) fun v H6 e6 tv h => nomatch h
      rw [filt_no] at z
      exact z
    have hl3 := e6 _ _ hl3
    have hl4 := e6 _ _ hl4
    refine q_ext0 (ev_var (i := 4) rfl) hl4 (eds_rep (d := .int 0) (n := 0) (eds_lst (da_cons (ed_int ev_c) da_nil) (by decide)) (fun H7 e7 => ev_is (ev_op (ev_lenSeq (ev_var (i := 3) rfl) (e7 _ _ hl3)) (ev_var (i := 8) rfl) rv_I0) (by rfl)) (by decide)) fun H7 e7 => ?_
    have hl3 := e7 _ _ hl3
    have e67 := e6.trans e7
    have hl9 := e67 _ _ hl9
    have y9 := y9.mono e67
    have e37 := (e34.trans e5).trans e67
    -- the points
    refine q_asgDs (ds := ps.map c3 ++ Pp.map fun q => c3 q.1) (eds_star2 (ed_tpts (ed_var (i := 2) rfl (td.c.mono e37)) nc) ?_ (by rw [List.length_map, List.length_map]; omega)) fun p10 xs10 H8 e8 n10 hl10 y10 => ?_
    · have z := eds_it (te := tOp (rIxT K) (tVar 14) (tC (.int 0))) (σ := [some a, some b, some c, some (.ref p3), some (.ref p4), x5, x6, x7, some (.int 0), some (.ref p9), none, none, none, none, none, none, none, none, none, none, none]) (H := H7) (tt := tTest (tOp (rEqD K) (tOp (rIxT K) (tVar 14) (tC (.int 0))) (tOp (rIxT K) (tVar 14) (tC (.int 1))))) (vs := [14]) (g := gName 14) (enc := fun q : Pt × Pt => PyData.tuple [c3 q.1, c3 q.2]) (es := Pp) (fun _ => true) (fun q : Pt × Pt => c3 q.1) (ei_list (K := K) (ld_of (ev_var (i := 9) rfl) hl9 y9)) (by omega) fun q hq => turn_nm (fun _ => rfl) (fun v H6 e6 tv => et_eq2 (p := q.2) (by
        have z := ed_var (i := 14) (σ := (wipe [some a, some b, some c, some (.ref p3), some (.ref p4), x5, x6, x7, some (.int 0), some (.ref p9), none, none, none, none, none, none, none, none, none, none, none] [14]).set 14 (some v)) rfl tv
        rw [dg.p q hq] at z
        exact z)) fun v H6 e6 tv _ => ed_ix (ed_var (i := 14) rfl tv) ⟨by decide, rfl⟩
      rw [filt_all] at z
      exact z
    have ep : (ps.map c3 ++ Pp.map fun q => c3 q.1) = (ps ++ Pp.map Prod.fst).map c3 := by
      rw [List.map_append, List.map_map]
      rfl
    rw [ep] at y10
    generalize ps ++ Pp.map Prod.fst = ps at y10 pb q
    have hl3 := e8 _ _ hl3
    -- the web
    refine q_asgQ ((ea_cons (ev_var (i := 3) rfl) (ea_cons (ev_var (i := 10) rfl) ea_nil)) H8 (Ex.refl _) _ fun H9 e9 x dx nx ndx ne => ⟨x, dx, p3, p10, xs10, ps, rfl, upd_same, made_up nx ndx ne _ _ (e9 _ _ hl3), made_up nx ndx ne _ _ (e9 _ _ hl10), (y10.mono e9).mono (made_up nx ndx ne), pb, fun S H10 kp hS L => ⟨rfl, ?_⟩⟩)
    have e10 : Ex H8 H10 := e9.trans (made_ex nx ndx kp)
    have hl10 := e10 _ _ hl10
    have y10 := y10.mono e10
    -- the rooms
    refine q_asgQ ⟨_, rfl, (eds_lc0 (ei_hasE (ev_var (i := 11) rfl) L.covering W.cl W.covering)) H10 (Ex.refl _) _ fun p0 xs0 H11 n0 e11 hl0 y0 => ⟨x, .ref p0, rfl, L.count.mono e11, L.borders.mono e11, fun l12 H12 n12 e12' hl12 => ?_⟩⟩
    have e1112 := e11.trans e12'
    have L12 := L.mono e1112
    have hl10 := e1112 _ _ hl10
    have y10 := y10.mono e1112
    -- the points again
    obtain ⟨S0, nd0, mem0, eq0⟩ := puts_pts (.bl true) ps
    refine q_asgDT (kvs := S0.map fun p => (kP p, .bl true)) (eq0 ▸ edt_dc (ei_list (ld_of (ev_var (i := 10) rfl) hl10 y10)) (Nat.le_trans pb.len (by decide)) fun p hp => turnk_nm (fun _ => rfl) (fun v H2 e2 x => ek_c3 (ed_var rfl x)) fun v H2 e2 x => ev_c) fun D13 H13 e13 nD hD => ?_
    have L13 := L12.mono e13
    have hl12 := e13 _ _ hl12
    have psb := hS.psb pb
    refine s_retQ ⟨_, rfl, ?_⟩
    refine (eds_it (te := tDIn (tVar 19) (tVar 13)) (tt := tYes) (vs := [19]) (g := gName 19) (enc := c3) (es := S) (fun _ => true) (fun _ => .bool true) (ei_list (K := K) (by
      obtain ⟨l, xs, h1, h2, h3⟩ := L13.spots
      exact ld_of (ev_has (ev_var (i := 11) rfl) h1 W.cl W.spots) h2 h3)) (Nat.le_trans psb.len (by decide)) fun p hp => turn_nm (fun _ => rfl) (fun _ _ _ _ => et_yes) fun v H14 e14 x _ => ed_bool fun H15 e15 Q q' => ?_) H13 (Ex.refl _) _ fun p14 xs14 H14 n14 e14 hl14 y14 => ?_
    · have x15 := x.mono e15
      obtain ⟨b, rfl, hb⟩ := c3_key x15
      have m : p ∈ S0 := (mem0 p).mpr ((hS.mem p).mp hp)
      have v := val_pts (v := .bl true) (S0 := S0) p
      rw [if_pos m] at v
      exact ⟨_, rfl, _, rfl, D13, some (.bl true), rfl, by
        rw [← v]
        exact DGet.t (k := kP p) ((e14.trans e15) _ _ hD) hb, q' _ (Ex.refl _)⟩
    rw [filt_all] at y14
    have xs : xs14 = (S.map fun _ => true).map V.bl := by
      refine TDs.bls_inv (H := H14) (bs := S.map fun _ => true) ?_
      rw [List.map_map]
      exact y14
    subst xs
    have L14 := L13.mono e14
    have hl12 := e14 _ _ hl12
    refine (eds_lc0 (ei_hasE (ev_var (i := 11) rfl) L14.covering W.cl W.covering)) H14 (Ex.refl _) _ fun p15 xs15 H15 n15 e15 hl15 y15 => ?_
    cases y15.inv0
    have hl12 := e15 _ _ hl12
    refine (eds_it (te := tOp rNe (tVar 20) (tC (.int 0))) (tt := tYes) (vs := [20]) (g := gName 20) (enc := fun _ : Nat => .int 0) (es := [0]) (fun _ => true) (fun _ => .bool false) (ei_list (K := K) (ld_of (ev_var (i := 12) rfl) hl12 (TDs.cons (TDs.int 0 .nil) .nil))) (by decide) fun p hp => turn_nm (fun _ => rfl) (fun _ _ _ _ => et_yes) fun v H16 e16 x _ => ?_) H15 (Ex.refl _) _ fun p16 xs16 H16 n16 e16 hl16 y16 => ?_
    · cases x.int
      exact ed_bool (ev_is (ev_op (ev_var (i := 20) rfl) ev_c (rv_ne rfl)) (by decide))
    have xs : xs16 = [V.bl false] := TDs.bls_inv (bs := [false]) y16
    subst xs
    have e1516 := e15.trans e16
    refine ⟨x, p14, p15, p16, S, S.map fun _ => true, rfl, L14.mono e1516, psb.len, e1516 _ _ hl14, List.length_map _, e16 _ _ hl15, hl16, fun v H' e' t' => q v S H' ?_ hS ?_⟩
    · exact (((((e12.trans e37).trans e8).trans e10).trans e1112).trans e13).trans (e14.trans (e1516.trans e'))
    · rw [sel_all fun k hk => ?_] at t'
      · exact t'
      · rw [List.getD_eq_getElem?_getD, List.getElem?_map, List.getElem?_eq_getElem hk]
        rfl
end
end Q
set_option Elab.async false
set_option linter.all false
set_option maxRecDepth 100000
set_option maxHeartbeats 4000000
/-! shapes of lone points -/
namespace Q
open PySem L2 PySem.Spec PyProof.Rows PySem.Calls PySem.OwnX
open Evl
abbrev sSI : Stmt := inClass (top 86) 0
abbrev sTk : Stmt := inClass (top 86) 1
abbrev sPf : Stmt := inClass (top 86) 5
abbrev sPp : Stmt := inClass (top 86) 3
abbrev sPd : Stmt := inClass (top 86) 4
abbrev sPs : Stmt := inClass (top 86) 7
abbrev sPl : Stmt := inClass (top 86) 10
abbrev sSO : Stmt := top 87
/-- the class of shapes -/
structure SC (K : PySem.W.Frag) (mg : Str → Option Value) (C : Addr) : Prop where
  cl : Cls K C
  g : mg "Shape" = some (.ref C)
  form : NoAttr K C "_form"
  sides : NoAttr K C "_sides"
  members : NoAttr K C "_members"
def shF (f s m : V) : List (Str × V) := [("_form", f), ("_sides", s), ("_members", m)]
/-- a shape of the lone points P -/
structure ShT (H : Hp) (f s m : V) (P : List (Int × Int)) : Prop where
  f : TD1 H f (formD P)
  s : TD1 H s (.tuple [])
  m : TD1 H m (.tuple (P.map c3))
def Sh (C : Addr) (H : Hp) (a : Addr) (P : List (Int × Int)) : Prop := ∃ dx f s m, H a = some (.ins C dx (shF f s m)) ∧ ShT H f s m P
theorem ShT.mono {H H' : Hp} {f s m : V} {P : List (Int × Int)} (h : ShT H f s m P) (e : Ex H H') : ShT H' f s m P := ⟨h.f.mono e, h.s.mono e, h.m.mono e⟩
theorem Sh.mono {C a : Addr} {H H' : Hp} {P : List (Int × Int)} (h : Sh C H a P) (e : Ex H H') : Sh C H' a P := by
  obtain ⟨dx, f, s, m, h1, h2⟩ := h
  exact ⟨dx, f, s, m, e _ _ h1, h2.mono e⟩
def spTk (C : Addr) : Sp := fun vs H Q _ => ∃ (a dx : Addr) (fs : List (Str × V)) (v : V) (P : List (Int × Int)), vs = [.ref a, v] ∧ H a = some (.ins C dx fs) ∧ (fs = [] ∨ ∃ f s m, fs = shF f s m) ∧ TD1 H v (formD P) ∧ P.length ≤ 1000 ∧
  ∀ H', (∀ l o, l ≠ a → H l = some o → H' l = some o) → Sh C H' a P → Q .non H'
/-- what a shape is told by: wrong, too much, or points alone -/
def Good (As : List (List (List Pt))) : Prop := ∀ rs ∈ As, 1 ≤ rs.length ∧ ∀ r ∈ rs, 3 ≤ r.length
def Bad3 (C : Addr) (H : Hp) (x y z : V) : Prop := ∃ t1 t2 t3, Tr1 C H x t1 ∧ Tr1 C H y t2 ∧ Tr1 C H z t3 ∧ Fw 3 t1 ∧ Fw 2 t2 ∧ Fw 1 t3 ∧ toldT t1 t2 t3 = false
theorem Bad3.mono {C : Addr} {H H' : Hp} {x y z : V} (h : Bad3 C H x y z) (e : Ex H H') : Bad3 C H' x y z := by
  obtain ⟨t1, t2, t3, h1, h2, h3, h⟩ := h
  exact ⟨t1, t2, t3, h1.mono e, h2.mono e, h3.mono e, h⟩
def Big3 (H : Hp) (x y z : V) : Prop := ∃ As Pp ps, Told H x y z As Pp ps ∧ Good As ∧ 200 < sizeT As Pp ps
theorem Big3.mono {H H' : Hp} {x y z : V} (h : Big3 H x y z) (e : Ex H H') : Big3 H' x y z := by
  obtain ⟨As, Pp, ps, t, h⟩ := h
  exact ⟨As, Pp, ps, t.mono e, h⟩
def Pts3 (H : Hp) (x y z : V) : Prop := ∃ As Pp ps, Told H x y z As Pp ps ∧ Good As ∧ Deg As Pp ∧ PsB (ps ++ Pp.map Prod.fst) ∧ sizeT As Pp ps ≤ 200
theorem Pts3.mono {H H' : Hp} {x y z : V} (h : Pts3 H x y z) (e : Ex H H') : Pts3 H' x y z := by
  obtain ⟨As, Pp, ps, t, h⟩ := h
  exact ⟨As, Pp, ps, t.mono e, h⟩
def SiE (C CT CM : Addr) (x y z : V) (H : Hp) (E : XK) (R : Prop) : Prop := (Bad3 C H x y z ∧ Rs CT E H) ∨ (Big3 H x y z ∧ Rz CM "limit" E H (.int 200)) ∨ (Pts3 H x y z ∧ R)
def spSI (C CT CM : Addr) : Sp := fun vs H Q E => ∃ (a dx : Addr) (x y z : V), vs = [.ref a, x, y, z] ∧ H a = some (.ins C dx []) ∧ SiE C CT CM x y z H E (∀ S H', (∀ l o, l ≠ a → H l = some o → H' l = some o) → S.length ≤ 200 → Sh C H' a S → Q .non H')
def spPf (C : Addr) : Sp := fun vs H Q _ => ∃ (a : Addr) (P : List (Int × Int)), vs = [.ref a] ∧ Sh C H a P ∧ ∀ v, TD1 H v (formD P) → Q v H
def spPl (C : Addr) : Sp := fun vs H Q _ => ∃ (a : Addr) (P : List (Int × Int)), vs = [.ref a] ∧ Sh C H a P ∧ P.length ≤ 1000 ∧ Q (.int P.length) H
def spSO (C : Addr) : Sp := fun vs H Q _ => ∃ (v : V) (P : List (Int × Int)), vs = [v] ∧ TD1 H v (formD P) ∧ P.length ≤ 1000 ∧ ∀ b H', Ex H H' → Sh C H' b P → Q (.ref b) H'
/-- told corners as trees -/
def cT (p : Pt) : Tr := .tup [.int p.1, .int p.2]
def ringT (r : List Pt) : Tr := .tup (r.map cT)
def areaT (rs : List (List Pt)) : Tr := .tup (rs.map ringT)
def pieceT (q : Pt × Pt) : Tr := .tup [cT q.1, cT q.2]
theorem trd_c2 (p : Pt) : TrD (c2 p) (cT p) := .cons (.int _) (.cons (.int _) .nil)
theorem trd_map {α : Type} {f : α → PyData} {g : α → Tr} : ∀ {xs : List α}, (∀ x ∈ xs, TrD (f x) (g x)) → TrD (.tuple (xs.map f)) (.tup (xs.map g))
  | [], _ => .nil
  | x :: xs, h => .cons (h x List.mem_cons_self) (trd_map fun y m => h y (List.mem_cons_of_mem _ m))
theorem trd_ring (r : List Pt) : TrD (ringD r) (ringT r) := trd_map fun p _ => trd_c2 p
theorem trd_area (rs : List (List Pt)) : TrD (areaD rs) (areaT rs) := trd_map fun r _ => trd_ring r
theorem trd_piece (q : Pt × Pt) : TrD (pieceD q) (pieceT q) := .cons (trd_c2 _) (.cons (trd_c2 _) .nil)
theorem cor_cT (p : Pt) : (cT p).cor = true := rfl
theorem cors_map (r : List Pt) : (Tr.tup (r.map cT)).cors = true := by
  show (r.map cT).all Tr.cor = true
  rw [List.all_eq_true]
  intro t m
  obtain ⟨p, _, rfl⟩ := List.mem_map.mp m
  rfl
theorem told_tr {CS : Addr} {H : Hp} {a b c : V} {As : List (List (List Pt))} {Pp : List (Pt × Pt)} {ps : List Pt} (t : Told H a b c As Pp ps) (g : Good As) :
    ∃ t1 t2 t3, Tr1 CS H a t1 ∧ Tr1 CS H b t2 ∧ Tr1 CS H c t3 ∧ Fw 3 t1 ∧ Fw 2 t2 ∧ Fw 1 t3 ∧ toldT t1 t2 t3 = true := by
  have na := t.na
  have np := t.np
  have nc := t.nc
  refine ⟨.tup (As.map areaT), .tup (Pp.map pieceT), .tup (ps.map cT), tr1_of t.a (trd_map fun rs _ => trd_area rs), tr1_of t.b (trd_map fun q _ => trd_piece q), tr1_of t.c (trd_map fun p _ => trd_c2 p), ⟨?_, fun u m => ?_⟩, ⟨?_, fun u m => ?_⟩, ⟨?_, fun _ _ => True.intro⟩, ?_⟩
  · show (As.map areaT).length ≤ 1000
    rw [List.length_map]
    omega
  · obtain ⟨rs, mr, rfl⟩ := List.mem_map.mp m
    have nr := t.nr rs mr
    refine ⟨?_, fun u m => ?_⟩
    · show (rs.map ringT).length ≤ 1000
      rw [List.length_map]
      omega
    · obtain ⟨r, mr, rfl⟩ := List.mem_map.mp m
      have := nr.2 r mr
      refine ⟨?_, fun _ _ => True.intro⟩
      show (r.map cT).length ≤ 1000
      rw [List.length_map]
      omega
  · show (Pp.map pieceT).length ≤ 1000
    rw [List.length_map]
    omega
  · obtain ⟨q, _, rfl⟩ := List.mem_map.mp m
    exact ⟨(show 2 ≤ 1000 by decide), fun _ _ => True.intro⟩
  · show (ps.map cT).length ≤ 1000
    rw [List.length_map]
    omega
  · show ((As.map areaT).all Tr.area && ((Pp.map pieceT).all Tr.piece && (Tr.tup (ps.map cT)).cors)) = true
    rw [cors_map, Bool.and_true, Bool.and_eq_true, List.all_eq_true, List.all_eq_true]
    refine ⟨fun u m => ?_, fun u m => ?_⟩
    · obtain ⟨rs, mr, rfl⟩ := List.mem_map.mp m
      obtain ⟨g1, g2⟩ := g rs mr
      show (decide (1 ≤ (rs.map ringT).length) && (rs.map ringT).all Tr.ring) = true
      rw [List.length_map, decide_eq_true g1, Bool.true_and, List.all_eq_true]
      intro u m
      obtain ⟨r, mr, rfl⟩ := List.mem_map.mp m
      show ((Tr.tup (r.map cT)).cors && decide (3 ≤ (r.map cT).length)) = true
      rw [cors_map, List.length_map, decide_eq_true (g2 r mr)]
      rfl
    · obtain ⟨q, _, rfl⟩ := List.mem_map.mp m
      rfl
theorem goes0 {X : Cx} : Goes X E0 := fun _ _ _ _ _ _ _ h => by
  obtain ⟨_, _, _, _, _, _, _, _, _, _, _, _, h⟩ := h
  exact h.elim
section
variable {K : PySem.W.Frag} {σ : L2.St} {H : Hp} {te ta tb tc tv : TE} {D : Ends} {tz : TS} {ds es fs : List PyData} {f : Str} {a C dx : Addr} {gs : List (Str × V)}
/-- (*a, *b, *c) of tuples -/
theorem ed_star3 (h1 : EvD ta σ H (.tuple ds)) (h2 : EvD tb σ H (.tuple es)) (h3 : EvD tc σ H (.tuple fs)) (hz : ds.length + (es.length + fs.length) ≤ 100000) : EvD (tTup (StX.tStar K ta (StX.tStar K tb (StX.tStar K tc tNil)))) σ H (.tuple (ds ++ (es ++ fs))) := fun H1 e1 Q q => h1 H1 e1 _ fun v H2 e2 xv => by
  obtain ⟨p, xs, rfl, hp, tx⟩ := xv.tup
  refine ⟨p, xs, rfl, .inl (SqT.of hp), h2 H2 (e1.trans e2) _ fun v H3 e3 xv => ?_⟩
  obtain ⟨p2, ys, rfl, hp2, ty⟩ := xv.tup
  refine ⟨p2, ys, rfl, .inl (SqT.of hp2), h3 H3 (e1.trans (e2.trans e3)) _ fun v H4 e4 xv => ?_⟩
  obtain ⟨p3, zs, rfl, hp3, tz⟩ := xv.tup
  refine ⟨p3, zs, rfl, .inl (SqT.of hp3), ?_⟩
  have l1 := tx.len
  have l2 := ty.len
  have l3 := tz.len
  refine ⟨sz_of (by rw [List.append_nil, List.length_append, List.length_append]; omega), fun r hr => ?_⟩
  rw [List.append_nil]
  have er := Ex.new (o := .tup (xs ++ (ys ++ zs))) hr
  exact q _ _ (((e2.trans e3).trans e4).trans er) (TD1.mk upd_same (((tx.mono (e3.trans e4)).app ((ty.mono e4).app tz)).mono er))
theorem ed_fld {v : V} {d : PyData} (h : Ev te σ H (.ref a)) (ha : H a = some (.ins C dx gs)) (cl : Cls K C) (na : NoAttr K C f) (hl : gs.lookup f = some v) (t : TD1 H v d) : EvD (tFld K te f) σ H d := ed_of (ev_has h ⟨dx, gs, ha, hl⟩ cl na) t
theorem go_mk3 {sp : Sp} {E : XK} {Q : VK} {t1 t2 t3 : TE} (h : t1 σ H fun x H1 => t2 σ H1 fun y H2 => t3 σ H2 fun z H3 => ∀ a dx, H3 a = none → H3 dx = none → dx ≠ a → sp [.ref a, x, y, z] (upd (upd H3 dx (.own a)) a (.ins C dx [])) (fun v H4 => v = .non ∧ Q (.ref a) H4) E) : tMake C sp [] E (tCons t1 (tCons t2 (tCons t3 tNil))) σ H Q := h
/-- three empty tuples as arguments -/
theorem go_tups3 {sp : Sp} {E : XK} {Q : VK} (k : ∀ x y z H1, Ex H H1 → TD1 H1 x (.tuple []) → TD1 H1 y (.tuple []) → TD1 H1 z (.tuple []) → ∀ a dx, H1 a = none → H1 dx = none → dx ≠ a → sp [.ref a, x, y, z] (upd (upd H1 dx (.own a)) a (.ins C dx [])) (fun v H2 => v = .non ∧ Q (.ref a) H2) E) : tMake C sp [] E (tCons (tTup tNil) (tCons (tTup tNil) (tCons (tTup tNil) tNil))) σ H Q := by
  refine go_mk3 ((ed_tup (ds := []) da_nil (by decide)) H (Ex.refl _) _ fun x H1 e1 tx => ?_)
  refine (ed_tup (ds := []) da_nil (by decide)) H1 (Ex.refl _) _ fun y H2 e2 ty => ?_
  refine (ed_tup (ds := []) da_nil (by decide)) H2 (Ex.refl _) _ fun z H3 e3 tz => ?_
  exact fun a dx na ndx ne => k x y z H3 ((e1.trans e2).trans e3) (tx.mono (e2.trans e3)) (ty.mono e3) tz a dx na ndx ne
theorem s_fldQ {i : Nat} {R : V → Hp → Prop} (h : ∀ Q : VK, (∀ v H1, Ex H H1 → R v H1 → Q v H1) → tv σ H Q) (hi : σ[i]? = some (some (.ref a))) (ha : H a = some (.ins C dx gs)) (cl : Cls K C) (n : NoAttr K C f) (hl : gs.length < 1000) (k : ∀ v H1, Ex H H1 → R v H1 → D.nx σ (upd H1 a (.ins C dx (putF f v gs)))) : sFld K (tVar i) tv f D σ H :=
  h _ fun v H1 e1 r => ⟨_, hi, a, C, dx, gs, rfl, e1 _ _ ha, cl, n, hl, k v H1 e1 r⟩
theorem TD1.off {v : V} {d : PyData} {o : HO} (h : TD1 H v d) (ha : H a = some (.ins C dx gs)) : TD1 (upd H a o) v d := h.by fun l ys hl => by
  rw [upd_ne]
  · exact hl
  · rintro rfl
    rw [ha] at hl
    cases hl
end
theorem sh_put {f s m : V} (gs : List (Str × V)) (h : gs = [] ∨ ∃ f s m, gs = shF f s m) : putF "_members" m (putF "_sides" s (putF "_form" f gs)) = shF f s m := by
  rcases h with rfl | ⟨f', s', m', rfl⟩ <;> rfl
section
variable {P : Program} {w : World} {K : PySem.W.Frag} {mg : Str → Option Value} {base : Heap} {CS : Addr}
abbrev nmTk : List Str := ["self", "form", "sides", "rings", "ring", "side"]
theorem scTk : FnScope nmTk ["self", "form"] (defScope sTk) := ⟨rfl, rfl, rfl, by decide +kernel, rfl, by decide +kernel, by decide +kernel⟩
theorem ok_tk {f : Addr} {fd : FuncData} (F : Fun K "_take_form" "Shape._take_form" sTk f fd) (T : TN mg) (S : SC K mg CS) : FnOk P w K mg base CX0 1 f fd ["self", "form"] (spTk CS) := by
  refine F.ok scTk (fun vs H Q E h => ?_) (fun cdv A' outer s0 H vs Q E hr h => ?_)
  · obtain ⟨a, dx, gs, v, P, rfl, _⟩ := h
    rfl
  · obtain ⟨a, dx, gs, v, P, rfl, ha, hgs, tv, hz, q⟩ := h
    refine ⟨_, (pss_cons (ps_fld (pv 0) (pv 1) rfl)
      (pss_cons (DCT.ps_setLc0 (i := 2) (own := [("rings", 3), ("ring", 4), ("side", 5)]) (by rfl) scTk.nd rfl rfl (sw_true rfl rfl rfl (by decide +kernel)) (pi_tup (pe_ix ix_tup (pv 1) pe_int (fun _ _ => rfl))) (blkOk_by (own := [("rings", 3), ("ring", 4), ("side", 5)]) (N := nmTk) (sc := defScope sTk) (by decide +kernel)))
      (pss_cons (ps_fld (pv 0) (pe_callTy call_tuple_of (by rfl) T.tuple (by decide +kernel) (pa_cons (pv 2) pa_nil)) rfl)
      (pss_one (ps_fld (pv 0) (pe_tup (StX.pa_star (pe_fld (pv 0) rfl) (StX.pa_star (pe_ix ix_tup (pv 1) pe_int (fun _ _ => rfl)) (StX.pa_star (pe_ix ix_tup (pv 1) pe_int (fun _ _ => rfl)) pa_nil)))) rfl))))), ?_⟩
    have hgl : gs.length ≤ 3 := by
      rcases hgs with rfl | ⟨f', s', m', rfl⟩
      · exact Nat.zero_le _
      · exact Nat.le_refl _
    refine q_fld (ev_var (i := 1) rfl) (fun _ _ => ev_var (i := 0) rfl) ha S.cl S.form (by omega) fun H1 e1 => ?_
    have tv := (tv.mono e1).off (o := .ins CS dx (putF "_form" v gs)) (e1 _ _ ha)
    have ha1 : upd H1 a (.ins CS dx (putF "_form" v gs)) a = some (.ins CS dx (putF "_form" v gs)) := upd_same
    have kp1 : ∀ l o, l ≠ a → H l = some o → upd H1 a (.ins CS dx (putF "_form" v gs)) l = some o := fun l o n h => by
      rw [upd_ne n]
      exact e1 _ _ h
    have l1 := length_putF "_form" v gs
    generalize upd H1 a (.ins CS dx (putF "_form" v gs)) = H2 at tv ha1 kp1 ⊢
    refine q_asgDs (eds_lc0 (ei_tup (ed_ix (ed_var (i := 1) rfl tv) ⟨by decide, rfl⟩))) fun l2 xs2 H3 e3 n3 hl3 y3 => ?_
    cases y3.inv0
    have ha3 := e3 _ _ ha1
    have tv := tv.mono e3
    refine q_fldQ (i := 0) (R := fun u H' => TD1 H' u (.tuple [])) (fun Q q' => ed_tupV (ev_var (i := 2) rfl) hl3 .nil _ (Ex.refl _) Q q') rfl ha3 S.cl S.sides (by omega) fun u H4 e4 tu => ?_
    have ha4 := e4 _ _ ha3
    have tv := (tv.mono e4).off (o := .ins CS dx (putF "_sides" u (putF "_form" v gs))) ha4
    have tu := tu.off (o := .ins CS dx (putF "_sides" u (putF "_form" v gs))) ha4
    have ha5 : upd H4 a (.ins CS dx (putF "_sides" u (putF "_form" v gs))) a = some (.ins CS dx (putF "_sides" u (putF "_form" v gs))) := upd_same
    have kp5 : ∀ l o, l ≠ a → H l = some o → upd H4 a (.ins CS dx (putF "_sides" u (putF "_form" v gs))) l = some o := fun l o n h => by
      rw [upd_ne n]
      exact (e3.trans e4) _ _ (kp1 l o n h)
    have l2 := length_putF "_sides" u (putF "_form" v gs)
    generalize upd H4 a (.ins CS dx (putF "_sides" u (putF "_form" v gs))) = H5 at tv tu ha5 kp5 ⊢
    refine s_fldQ (i := 0) (R := fun m H' => TD1 H' m (.tuple (P.map c3))) (fun Q q' => ed_star3 (ds := []) (es := []) (fs := P.map c3) (ed_fld (ev_var (i := 0) rfl) ha5 S.cl S.sides (look_put (g := "")) tu) (ed_ix (ed_var (i := 1) rfl tv) ⟨by decide, rfl⟩) (ed_ix (ed_var (i := 1) rfl tv) ⟨by decide, rfl⟩) (by rw [List.length_map]; show 0 + (0 + P.length) ≤ 100000; omega) _ (Ex.refl _) Q q') rfl ha5 S.cl S.members (by omega) fun m H6 e6 tm => ?_
    have ha6 := e6 _ _ ha5
    refine q _ (fun l o n h => ?_) ⟨dx, v, u, m, ?_, (tv.mono e6).off ha6, (tu.mono e6).off ha6, tm.off ha6⟩
    · rw [upd_ne n]
      exact e6 _ _ (kp5 l o n h)
    · rw [upd_same, sh_put gs hgs]
abbrev nmSI : List Str := ["self", "areas", "pieces", "points"]
theorem scSI : FnScope nmSI ["self", "areas", "pieces", "points"] (defScope sSI) := ⟨rfl, rfl, rfl, by decide +kernel, rfl, by decide +kernel, by decide +kernel⟩
theorem ok_si {f : Addr} {fd : FuncData} {CTa CM : Addr} (F : Fun K "__init__" "Shape.__init__" sSI f fd) (S : SC K mg CS) (ES : ErrE "InvalidShape" K mg CTa) (CT : Cl P w K mg base 7 "is_told_shape" (spTo CS)) (CZ : Cl P w K mg base 1 "told_size" spTSize) (CK : ClX P w K mg base 2 "check_told_size" (spCTS CM)) (CF : Cl P w K mg base 7 "told_form" spTF) (MT : Mt P w K mg base 1 CS "_take_form" (spTk CS)) :
    FnOk P w K mg base (L2.CX P w) 8 f fd ["self", "areas", "pieces", "points"] (spSI CS CTa CM) := by
  refine F.okX scSI (fun vs H Q E h => ?_) (fun cdv A' outer s0 H vs Q E hr h => ?_)
  · obtain ⟨a, dx, x, y, z, rfl, _⟩ := h
    rfl
  · obtain ⟨a, dx, x, y, z, rfl, ha, h⟩ := h
    refine ⟨_, (pss_cons (ps_if (pt_not (pt_val (pe_cl CT hr (by decide) (by rfl) (pa_cons (pv 1) (pa_cons (pv 2) (pa_cons (pv 3) pa_nil)))))) (pss_one (ps_raise (W := fun cls d _ H => E cls d H) rfl (takes_of rfl rfl rfl rfl) (SkE.pmk_own1 PySem.F.excBase_ValueError ES.x ES.g ES.kC (raises_own ES.be ES.typ) (by rfl) pe_str))) pss_nil)
      (pss_cons (ps_expr (pe_clX CK (goes_of (W := fun cls d _ H => E cls d H) (takes_of rfl rfl rfl rfl) fun _ _ _ _ h => h) hr (by decide) (by rfl) (pa_cons (pe_cl CZ hr (by decide) (by rfl) (pa_cons (pv 1) (pa_cons (pv 2) (pa_cons (pv 3) pa_nil)))) pa_nil)))
      (pss_one (ps_expr (pe_mt MT hr (by decide) (pv 0) (pa_cons (pe_cl CF hr (by decide) (by rfl) (pa_cons (pv 1) (pa_cons (pv 2) (pa_cons (pv 3) pa_nil)))) pa_nil)))))), ?_⟩
    have it : ∀ {t1 t2 t3 : Tr}, Tr1 CS H x t1 → Tr1 CS H y t2 → Tr1 CS H z t3 → Fw 3 t1 → Fw 2 t2 → Fw 1 t3 → EvT (tNot (tB (tCall (spTo CS) [] E0 (tCons (tVar 1) (tCons (tVar 2) (tCons (tVar 3) tNil)))))) [some (.ref a), some x, some y, some z] H (!toldT t1 t2 t3) := fun {t1 t2 t3} h1 h2 h3 f1 f2 f3 => et_not (et_B (ev_call (ea_cons (ev_var (i := 1) rfl) (ea_cons (ev_var (i := 2) rfl) (ea_cons (ev_var (i := 3) rfl) ea_nil))) fun H1 e1 Q q' E => ⟨x, y, z, t1, t2, t3, rfl, h1.mono e1, h2.mono e1, h3.mono e1, f1, f2, f3, fun H2 e2 => q' H2 e2⟩))
    have good : ∀ {As : List (List (List Pt))} {Pp : List (Pt × Pt)} {ps : List Pt}, Told H x y z As Pp ps → Good As → EvT (tNot (tB (tCall (spTo CS) [] E0 (tCons (tVar 1) (tCons (tVar 2) (tCons (tVar 3) tNil)))))) [some (.ref a), some x, some y, some z] H false := fun t g => by
      obtain ⟨t1, t2, t3, h1, h2, h3, f1, f2, f3, ht⟩ := told_tr (CS := CS) t g
      exact et_is (it h1 h2 h3 f1 f2 f3) (by rw [ht]; rfl)
    rcases h with ⟨⟨t1, t2, t3, h1, h2, h3, f1, f2, f3, ht⟩, rs⟩ | ⟨⟨As, Pp, ps, td, gd, big⟩, rz⟩ | ⟨⟨As, Pp, ps, td, gd, dg, pb, sm⟩, q⟩
    · exact q_when (b := true) (et_is (it h1 h2 h3 f1 f2 f3) (by rw [ht]; rfl)) (fun _ H1 e1 => rs H1 e1) fun z => nomatch z
    · refine q_not (good td gd) fun H1 e1 => ?_
      exact ⟨_, rfl, _, rfl, _, rfl, x, y, z, As, Pp, ps, rfl, td.mono e1, fun H2 e2 => ⟨sizeT As Pp ps, rfl, .inl ⟨big, rz.mono (e1.trans e2)⟩⟩⟩
    · refine q_not (good td gd) fun H1 e1 => ?_
      have td := td.mono e1
      refine ⟨_, rfl, _, rfl, _, rfl, x, y, z, As, Pp, ps, rfl, td, fun H2 e2 => ⟨sizeT As Pp ps, rfl, .inr ⟨sm, fun H3 e3 => ?_⟩⟩⟩
      have e23 := e2.trans e3
      have e13 := e1.trans e23
      refine ⟨_, rfl, a, dx, [], rfl, e13 _ _ ha, rfl, _, rfl, _, rfl, _, rfl, x, y, z, As, Pp, ps, rfl, td.mono e23, dg, pb, fun v S' H4 e4 hS tv => ?_⟩
      have e14 := e13.trans e4
      have lS : S'.length ≤ 200 := by
        have := nodup_len hS.nd fun p hp => (hS.mem p).mp hp
        rw [List.length_append, List.length_map] at this
        unfold sizeT at sm
        omega
      exact ⟨a, dx, [], v, S', rfl, e14 _ _ ha, .inl rfl, tv, by omega, fun H5 kp sh => q S' H5 (fun l o n h => kp l o n (e14 _ _ h)) lS sh⟩
abbrev nmSO : List Str := ["form", "shape"]
theorem scSO : FnScope nmSO ["form"] (defScope sSO) := ⟨rfl, rfl, rfl, by decide +kernel, rfl, by decide +kernel, by decide +kernel⟩
theorem ok_so {f : Addr} {fd : FuncData} (F : Fun K "shape_of" "shape_of" sSO f fd) (S : SC K mg CS) {CT CM : Addr} (MS : MqX P w K mg base 8 CS (spSI CS CT CM)) (MT : Mt P w K mg base 1 CS "_take_form" (spTk CS)) : FnOk P w K mg base CX0 10 f fd ["form"] (spSO CS) := by
  refine F.ok scSO (fun vs H Q E h => ?_) (fun cdv A' outer s0 H vs Q E hr h => ?_)
  · obtain ⟨v, P, rfl, _⟩ := h
    rfl
  · obtain ⟨v, P, rfl, tv, hz, q⟩ := h
    refine ⟨_, (pss_cons (ps_set (i := 1) scSO.nd rfl (Or.inl rfl) (pe_mqX MS goes0 hr (by decide) (by rfl) S.g (pa_cons (pe_tup pa_nil) (pa_cons (pe_tup pa_nil) (pa_cons (pe_tup pa_nil) pa_nil)))))
      (pss_cons (ps_expr (pe_mt MT hr (by decide) (pv 1) (pa_cons (pv 0) pa_nil)))
      (pss_one (ps_ret (pv 1))))), ?_⟩
    refine q_asgQ (go_tups3 fun x y z H1 e1 tx ty tz a dx na ndx ne => ?_)
    have up := made_up (o1 := .ins CS dx []) (o2 := .own a) na ndx ne
    refine ⟨a, dx, x, y, z, rfl, upd_same, .inr (.inr ⟨⟨[], [], [], ⟨tx.mono up, ty.mono up, tz.mono up, Nat.zero_le _, (fun _ m => nomatch m), Nat.zero_le _, Nat.zero_le _⟩, (fun _ m => nomatch m), ⟨(fun _ m => nomatch m), fun _ m => nomatch m⟩, ⟨Nat.zero_le _, fun _ m => nomatch m⟩, Nat.zero_le _⟩, fun S' H2 kp hS sh => ⟨rfl, ?_⟩⟩)⟩
    have e2 := made_ex na ndx kp
    obtain ⟨dx2, f', s', m', h1, h2⟩ := sh
    refine ⟨_, rfl, a, dx2, _, rfl, h1, rfl, _, rfl, a, dx2, _, v, P, rfl, h1, .inr ⟨_, _, _, rfl⟩, tv.mono (e1.trans e2), hz, fun H3 kp3 sh3 => ?_⟩
    refine s_ret (ev_var (i := 1) rfl) fun H4 e4 => q a H4 (fun l o hl => ?_) (sh3.mono e4)
    have hl1 := e1 _ _ hl
    exact e4 _ _ (kp3 l o (fun z => by
      rw [z, na] at hl1
      cases hl1) (e2 _ _ hl1))
abbrev nmPf : List Str := ["self"]
theorem scPf : FnScope nmPf ["self"] (defScope sPf) := ⟨rfl, rfl, rfl, by decide +kernel, rfl, by decide +kernel, by decide +kernel⟩
theorem ok_pf {f : Addr} {fd : FuncData} (F : Fun K "form" "Shape.form" sPf f fd) (S : SC K mg CS) : FnOk P w K mg base CX0 1 f fd ["self"] (spPf CS) := by
  refine F.ok scPf (fun vs H Q E h => ?_) (fun cdv A' outer s0 H vs Q E hr h => ?_)
  · obtain ⟨a, P, rfl, _⟩ := h
    rfl
  · obtain ⟨a, P, rfl, ⟨dx, f', s', m', h1, h2⟩, q⟩ := h
    exact ⟨_, (pss_one (ps_ret (pe_fld (pv 0) rfl))), ⟨_, rfl, a, CS, dx, _, f', rfl, h1, S.cl, S.form, rfl, q _ h2.f⟩⟩
abbrev nmPl : List Str := ["self"]
theorem scPl : FnScope nmPl ["self"] (defScope sPl) := ⟨rfl, rfl, rfl, by decide +kernel, rfl, by decide +kernel, by decide +kernel⟩
theorem ok_pl {f : Addr} {fd : FuncData} (F : Fun K "__len__" "Shape.__len__" sPl f fd) (T : TN mg) (S : SC K mg CS) : FnOk P w K mg base CX0 1 f fd ["self"] (spPl CS) := by
  refine F.ok scPl (fun vs H Q E h => ?_) (fun cdv A' outer s0 H vs Q E hr h => ?_)
  · obtain ⟨a, P, rfl, _⟩ := h
    rfl
  · obtain ⟨a, P, rfl, ⟨dx, f', s', m', h1, h2⟩, hz, q⟩ := h
    refine ⟨_, (pss_one (ps_ret (pe_callB call_len_seq (by rfl) T.len PySem.boot_len (pa_cons (pe_fld (pv 0) rfl) pa_nil)))), ?_⟩
    obtain ⟨l, xs, rfl, hl, t⟩ := h2.m.tup
    have e := t.len
    rw [List.length_map] at e
    exact ⟨_, rfl, a, CS, dx, _, .ref l, rfl, h1, S.cl, S.members, rfl, l, xs, rfl, .inr (SqT.of hl), e ▸ q⟩
end
end Q
set_option Elab.async false
set_option linter.all false
set_option maxRecDepth 100000
set_option maxHeartbeats 4000000
/-! values of which one is no shape are refused -/
namespace Q
open PySem L2 PySem.Spec PyProof.Rows PySem.Calls PySem.OwnX
open Evl
abbrev sChS : Stmt := top 88
/-- v is a shape -/
def OkS (C : Addr) (H : Hp) (v : V) : Prop := ∃ a P, v = .ref a ∧ Sh C H a P
theorem OkS.mono {C : Addr} {H H' : Hp} {v : V} (h : OkS C H v) (e : Ex H H') : OkS C H' v := by
  obtain ⟨a, P, rfl, s⟩ := h
  exact ⟨a, P, rfl, s.mono e⟩
/-- all are shapes, or one is none -/
def ChS (C CT : Addr) (vs : List V) (H : Hp) (Q : VK) (E : XK) : Prop := vs.length ≤ 1000 ∧ (((∀ v ∈ vs, OkS C H v) ∧ ∀ H', Ex H H' → Q .non H') ∨ ∃ pre v post k, vs = pre ++ v :: post ∧ (∀ u ∈ pre, OkS C H u) ∧ Pv H v k ∧ Rs CT E H)
theorem ChS.mono {C CT : Addr} {vs : List V} {H H' : Hp} {Q : VK} {E : XK} (h : ChS C CT vs H Q E) (e : Ex H H') : ChS C CT vs H' Q E := by
  obtain ⟨h1, h2⟩ := h
  refine ⟨h1, ?_⟩
  rcases h2 with ⟨a, q⟩ | ⟨pre, v, post, k, ev, a, p, r⟩
  · exact .inl ⟨fun v m => (a v m).mono e, fun H2 e2 => q H2 (e.trans e2)⟩
  · exact .inr ⟨pre, v, post, k, ev, fun u m => (a u m).mono e, p.mono e, r.mono e⟩
def spChS (C CT : Addr) : Sp := fun vs H Q E => ChS C CT vs H Q E
def spChS' (C CT : Addr) : Sp := fun vs H Q E => ∃ p rest, vs = [.ref p] ∧ H p = some (.tup rest) ∧ ChS C CT rest H Q E
theorem go_nmIf {j : Nat} {x : V} {σ : L2.St} {H : Hp} {t : TT} {tu : TS} {D : Ends} (h : tIfS t tu tNext D (σ.set j (some x)) H) : gName j x σ H (fun σ2 H2 => tIfS t tu tNext D σ2 H2) := h
theorem bind_star0 {B : List Value → Sem (List (Str × Value))} {pv : Str} (h0 : B [] = (newTuple [] >>= fun t => pure [(pv, t)])) (h1 : ∀ r rs, B (r :: rs) = (newTuple (r :: rs) >>= fun t => pure [(pv, t)])) :
    ∀ us rest : List Value, us.length = ([] : List Str).length → B (us ++ rest) = (newTuple rest >>= fun t => pure (([] : List Str).zip us ++ [(pv, t)]))
  | [], [], _ => h0
  | [], r :: rs, _ => h1 r rs
section
variable {P : Program} {w : World} {K : PySem.W.Frag} {mg : Str → Option Value} {base : Heap} {CS CT : Addr}
abbrev nmChS : List Str := ["values", "value"]
theorem scChS : FnScope nmChS (([] : List Str) ++ [("values" : Str)]) (defScope sChS) := ⟨rfl, rfl, rfl, by decide +kernel, rfl, by decide +kernel, by decide +kernel⟩
theorem ok_chs {f : Addr} {fd : FuncData} (F : Fun K "check_shapes" "check_shapes" sChS f fd) (T : TN mg) (S : SC K mg CS) (I : C8.InsC K CS) (no : NoI K CS) (ES : ErrE "InvalidShape" K mg CT) : FnR P w K mg base (L2.CX P w) 2 f (spChS CS CT) := by
  obtain ⟨oc, od, kV, doc, pm, an, cdv, ct, osl, rfl, lk, hcd⟩ := F.ex
  have z := StX.fn_star (P := P) (w := w) (mg := mg) (base := base) (CX := L2.CX P w) (k := 1) (N := nmChS) (ps := []) (pv := "values") (sp := spChS' CS CT) lk hcd scChS StX.cxUp (fun us rest h => bind_star0 (B := fun us => bindArgs (PySem.W.fnOf "check_shapes" "check_shapes" (defArgs sChS) (defBody sChS) (defScope sChS) .none kV doc pm an cdv ct) ⟨us, []⟩) rfl (fun _ _ => rfl) us rest h) (fun A' outer s H vs Q E hr h => ?_)
  · refine z.imp fun vs H Q E h => ?_
    refine ⟨[], vs, rfl, rfl, sz_of (Nat.le_trans h.1 (by decide)), fun p hp => ⟨p, vs, rfl, upd_same, ChS.mono h (Ex.new hp)⟩⟩
  · obtain ⟨p, rest, rfl, hp, hz, h⟩ := h
    refine ⟨_, (pss_one (ps_for (passes_of rfl) rfl (pi_tup (pv 0)) (pg_name (i := 1) scChS.nd rfl (Or.inl rfl))
        (pss_one (ps_if (pt_not (pt_val (pe_callB call_isi (by rfl) T.isi PyProof.Rows.boot_isinstance (pa_cons (pv 1) (pa_cons (pe_glob (v := .ref CS) (by rfl) S.g rfl) pa_nil))))) (pss_one (ps_raise (W := fun cls d _ H => E cls d H) rfl (takes_of rfl rfl rfl rfl) (SkE.pmk_own1 PySem.F.excBase_ValueError ES.x ES.g ES.kC (raises_own ES.be ES.typ) (by rfl) pe_str))) pss_nil)))), ?_⟩
    refine ⟨_, rfl, p, rfl, ⟨_, SqT.of hp⟩, ?_⟩
    have yes : ∀ {H1 : Hp} {x : V}, OkS CS H1 x → EvT (tNot (tB (tCB (rIsi K) (tCons (tVar 1) (tCons (tC (.ref CS)) tNil))))) [some (.ref p), some x] H1 false := fun {H1 x} ok => by
      obtain ⟨a, P', rfl, dx, f', s', m', h1, _⟩ := ok
      exact et_is (et_not (et_B (ev_isYes I (ev_var (i := 1) rfl) h1))) rfl
    rcases h with ⟨all, q⟩ | ⟨pre, v, post, k, rfl, all, pv, rs⟩
    · refine for_it (D := { nx := fun _ H' => Q .non H', rt := Q }) (walk_tup (K := K) (a := p) (xs := rest)) (fun i σ' H' => (∃ b, σ' = [some (.ref p), b]) ∧ Ex H H') ⟨⟨_, rfl⟩, Ex.refl _⟩ (fun i σ' H' _ c => SqT.of (c.2 _ _ hp)) (fun i x σ' H' H'' hi c y => ?_) fun σ' H' c => q H' c.2
      obtain ⟨rfl, hx⟩ := y
      obtain ⟨⟨b, rfl⟩, e⟩ := c
      refine go_nmIf (s_when (yes ((all x (List.mem_of_getElem? hx)).mono e)) (fun z => nomatch z) ?_)
      intro _ H1 e1
      exact ⟨⟨_, rfl⟩, e.trans e1⟩
    · refine for_it (D := { nx := fun _ H' => Q .non H', rt := Q }) (walk_tup (K := K) (a := p) (xs := pre ++ v :: post)) (fun i σ' H' => (∃ b, σ' = [some (.ref p), b]) ∧ Ex H H' ∧ i ≤ pre.length) ⟨⟨_, rfl⟩, Ex.refl _, Nat.zero_le _⟩ (fun i σ' H' _ c => SqT.of (c.2.1 _ _ hp)) (fun i x σ' H' H'' hi c y => ?_) fun σ' H' c => ?_
      · obtain ⟨rfl, hx⟩ := y
        obtain ⟨⟨b, rfl⟩, e, hl⟩ := c
        by_cases lt : i < pre.length
        · rw [List.getElem?_append_left lt] at hx
          refine go_nmIf (s_when (yes ((all x (List.mem_of_getElem? hx)).mono e)) (fun z => nomatch z) ?_)
          intro _ H1 e1
          exact ⟨⟨_, rfl⟩, e.trans e1, lt⟩
        · have ei : i = pre.length := by omega
          subst ei
          rw [List.getElem?_append_right (Nat.le_refl _), Nat.sub_self] at hx
          have ex : v = x := Option.some.inj hx
          subst ex
          refine go_nmIf (s_when (b := true) (et_is (et_not (et_B (ev_isNo no (ev_var (i := 1) rfl) (pv.mono e)))) rfl) ?_ fun z => nomatch z)
          intro _ H1 e1
          exact rs H1 (e.trans e1)
      · obtain ⟨_, _, hl⟩ := c
        rw [List.length_append, List.length_cons] at hl
        omega
end
end Q
set_option Elab.async false
set_option linter.all false
set_option maxRecDepth 100000
set_option maxHeartbeats 4000000
/-! a value that is no shape, refused by whatever takes shapes -/
namespace Q
open PySem L2 PySem.Spec PyProof.Rows PySem.Calls PySem.OwnX
open Evl
/-- a def with a star parameter that may raise -/
structure ClR (P : Program) (w : World) (K : PySem.W.Frag) (mg : Str → Option Value) (base : Heap) (k : Nat) (x : Str) (sp : Sp) : Prop where
  ex : ∃ f : Addr, FnR P w K mg base (L2.CX P w) k f sp ∧ mg x = some (.ref f) ∧ PySem.W.keepIn K (.ref f) = true
def tCallS1 (K : PySem.W.Frag) (sp : Sp) (E : XK) (te : TE) : TE := fun σ H Q => te σ H fun y H1 => ∃ a xs, y = V.ref a ∧ (SqT K H1 a xs ∨ SqL K H1 a xs) ∧ sp xs H1 Q E
theorem pe_clS1 {X : Cx} {k j : Nat} {x : Str} {sp : Sp} {p pos sp_ : Pos} {e : Expr} {te : TE} {E : XK} (c : ClR X.prog X.w X.K X.mg X.base k x sp) (go : Goes X E) (hr : Room j X.A) (hk : k ≤ j) (hg : Gl X x) (he : PE X e te) (hd : (x == ("__debug__" : Str)) = false := by decide)
    (hst : starEach [.Starred e sp_] X.env = [(true, eval e X.env)] := by rfl) : PE X (.Call (.Name x p) [.Starred e sp_] [] pos) (tCallS1 X.K sp E te) := by
  obtain ⟨f, F, hm, kp⟩ := c.ex
  exact StX.pe_callS1 F (hr.mono hk) kp hg hm go he hd hst
def tCallR (sp : Sp) (E : XK) (t : TA) : TE := fun σ H Q => t σ H fun vs H1 => sp vs H1 Q E
section
variable {X : Cx} {k j : Nat} {x : Str} {sp : Sp} {p pos : Pos} {e : Expr} {es : List Expr} {t : TA} {E : XK}
/-- f(a, ..), f a def with a star parameter -/
theorem pe_clR (c : ClR X.prog X.w X.K X.mg X.base k x sp) (go : Goes X E) (hr : Room j X.A) (hk : k ≤ j) (hg : Gl X x) (ha : PA X (e :: es) t)
    (hdb : (x == ("__debug__" : Str)) = false := by decide) (he : starEach (e :: es) X.env = (false, eval e X.env) :: starEach es X.env := by rfl) (hpl : (backTo pos (starEach es X.env)).any (·.1) = false := by rfl) : PE X (.Call (.Name x p) (e :: es) [] pos) (tCallR sp E t) := by
  obtain ⟨f, F, hm, kp⟩ := c.ex
  refine ⟨fun pins s σ H Q I h => ?_⟩
  refine wpAny_Call_Name_kw (ld_glob I hg hm ?_ hdb)
  refine PySem.W.callWith_K (h₀ := X.base) I.ok.mod.kin kp (thn (ha.run pos pins s σ H _ I h) fun us s1 ⟨vs, H1, I1, r, q⟩ => ⟨I1.kIn, ?_⟩) he hpl
  exact wpAny_call (run_fnR F (hr.mono hk) go I1 r q)
/-- f() -/
theorem pe_clR0 (c : ClR X.prog X.w X.K X.mg X.base k x sp) (go : Goes X E) (hr : Room j X.A) (hk : k ≤ j) (hg : Gl X x) (hdb : (x == ("__debug__" : Str)) = false := by decide) : PE X (.Call (.Name x p) [] [] pos) (tCallR sp E tNil) := by
  obtain ⟨f, F, hm, kp⟩ := c.ex
  refine ⟨fun pins s σ H Q I h => ?_⟩
  refine wpAny_Call_Name_kw (ld_glob I hg hm ?_ hdb)
  exact PySem.W.callWith_K0 I.kIn kp (wpAny_call (run_fnR (us := []) F (hr.mono hk) go I .nil h))
/-- f(a, *b) -/
theorem pe_clR2 (c : ClR X.prog X.w X.K X.mg X.base k x sp) (go : Goes X E) (hr : Room j X.A) (hk : k ≤ j) (hg : Gl X x) (ha : PA X (e :: es) t) (hd : (x == ("__debug__" : Str)) = false := by decide)
    (he : starEach (e :: es) X.env = (false, eval e X.env) :: starEach es X.env := by rfl) (hst : (backTo pos (starEach es X.env)).any (·.1) = true := by rfl) : PE X (.Call (.Name x p) (e :: es) [] pos) (tCallR sp E t) := by
  obtain ⟨f, F, hm, kp⟩ := c.ex
  exact StX.pe_callS2 F (hr.mono hk) kp hg hm go ha hd he hst
end
theorem pe_cl0 {X : Cx} {k j : Nat} {x : Str} {sp : Sp} {p pos : Pos} (c : Cl X.prog X.w X.K X.mg X.base k x sp) (hr : Room j X.A) (hk : k ≤ j) (hg : Gl X x) (hdb : (x == ("__debug__" : Str)) = false := by decide) : PE X (.Call (.Name x p) [] [] pos) (tCall sp [] E0 tNil) := by
  obtain ⟨f, fd, ps, F, hm, kp, b⟩ := c.ex
  exact pe_call0 F (hr.mono hk) hg hm kp b .nil pass0 hdb
/-- one value, refused -/
def Rf (CT : Addr) (v : V) (H : Hp) (E : XK) : Prop := ∃ k, Pv H v k ∧ Rs CT E H
theorem Rf.mono {CT : Addr} {v : V} {H H' : Hp} {E : XK} (h : Rf CT v H E) (e : Ex H H') : Rf CT v H' E := by
  obtain ⟨k, p, r⟩ := h
  exact ⟨k, p.mono e, r.mono e⟩
def spRf (CT : Addr) : Sp := fun vs H Q E => ∃ v, vs = [v] ∧ Rf CT v H E
def spRf' (CT : Addr) : Sp := fun vs H Q E => ∃ p v, vs = [.ref p] ∧ H p = some (.tup [v]) ∧ Rf CT v H E
theorem chs_rf {CS CT : Addr} {v : V} {H : Hp} {Q : VK} {E : XK} (h : Rf CT v H E) : ChS CS CT [v] H Q E := by
  obtain ⟨k, p, r⟩ := h
  exact ⟨(show 1 ≤ 1000 by decide), .inr ⟨[], v, [], k, rfl, (fun _ m => nomatch m), p, r⟩⟩
theorem q_rf {σ : L2.St} {H : Hp} {sp : Sp} {E : XK} {i : Nat} {v : V} {D : Ends} {tz : TS} (hi : σ[i]? = some (some v)) (h : ∀ Q, sp [v] H Q E) : tSeq (tDrop (tCallR sp E (tCons (tVar i) tNil))) tz D σ H := ⟨v, hi, h _⟩
theorem q_dr {σ : L2.St} {H : Hp} {sp : Sp} {E : XK} {i : Nat} {v : V} {D : Ends} {tz : TS} (hi : σ[i]? = some (some v)) (h : sp [v] H (fun _ H1 => tz D σ H1) E) : tSeq (tDrop (tCallR sp E (tCons (tVar i) tNil))) tz D σ H := ⟨v, hi, h⟩
abbrev sChD : Stmt := top 90
abbrev sShO : Stmt := top 91
abbrev sPlc : Stmt := top 99
section
variable {P : Program} {w : World} {K : PySem.W.Frag} {mg : Str → Option Value} {base : Heap} {CS CT CP : Addr}
abbrev nmChD : List Str := ["shapes", "shape"]
theorem scChD : FnScope nmChD (([] : List Str) ++ [("shapes" : Str)]) (defScope sChD) := ⟨rfl, rfl, rfl, by decide +kernel, rfl, by decide +kernel, by decide +kernel⟩
theorem ok_chd {f : Addr} {fd : FuncData} (F : Fun K "check_drawn" "check_drawn" sChD f fd) (CC : ClR P w K mg base 2 "check_shapes" (spChS CS CT)) : FnR P w K mg base (L2.CX P w) 4 f (spRf CT) := by
  obtain ⟨oc, od, kV, doc, pm, an, cdv, ct, osl, rfl, lk, hcd⟩ := F.ex
  have z := StX.fn_star (P := P) (w := w) (mg := mg) (base := base) (CX := L2.CX P w) (k := 3) (N := nmChD) (ps := []) (pv := "shapes") (sp := spRf' CT) lk hcd scChD StX.cxUp (fun us rest h => bind_star0 (B := fun us => bindArgs (PySem.W.fnOf "check_drawn" "check_drawn" (defArgs sChD) (defBody sChD) (defScope sChD) .none kV doc pm an cdv ct) ⟨us, []⟩) rfl (fun _ _ => rfl) us rest h) (fun A' outer s H vs Q E hr h => ?_)
  · refine z.imp fun vs H Q E h => ?_
    obtain ⟨v, rfl, h⟩ := h
    exact ⟨[], [v], rfl, rfl, sz_of (show 1 ≤ 100000 by decide), fun p hp => ⟨p, v, rfl, upd_same, h.mono (Ex.new hp)⟩⟩
  · obtain ⟨p, v, rfl, hp, h⟩ := h
    exact ⟨_, (pss_cons (ps_expr (pe_clS1 CC (goes_of (W := fun cls d _ H => E cls d H) (takes_of rfl rfl rfl rfl) fun _ _ _ _ h => h) hr (by decide) (by rfl) (pv 0))) pss_never), ⟨_, rfl, p, [v], rfl, .inl (SqT.of hp), chs_rf h⟩⟩
abbrev nmShO : List Str := ["shapes", "shape"]
theorem scShO : FnScope nmShO (([] : List Str) ++ [("shapes" : Str)]) (defScope sShO) := ⟨rfl, rfl, rfl, by decide +kernel, rfl, by decide +kernel, by decide +kernel⟩
theorem ok_sho {f : Addr} {fd : FuncData} (F : Fun K "sheet_of" "sheet_of" sShO f fd) (CD : ClR P w K mg base 4 "check_drawn" (spRf CT)) : FnR P w K mg base (L2.CX P w) 6 f (spRf CT) := by
  obtain ⟨oc, od, kV, doc, pm, an, cdv, ct, osl, rfl, lk, hcd⟩ := F.ex
  have z := StX.fn_star (P := P) (w := w) (mg := mg) (base := base) (CX := L2.CX P w) (k := 5) (N := nmShO) (ps := []) (pv := "shapes") (sp := spRf' CT) lk hcd scShO StX.cxUp (fun us rest h => bind_star0 (B := fun us => bindArgs (PySem.W.fnOf "sheet_of" "sheet_of" (defArgs sShO) (defBody sShO) (defScope sShO) .none kV doc pm an cdv ct) ⟨us, []⟩) rfl (fun _ _ => rfl) us rest h) (fun A' outer s H vs Q E hr h => ?_)
  · refine z.imp fun vs H Q E h => ?_
    obtain ⟨v, rfl, h⟩ := h
    exact ⟨[], [v], rfl, rfl, sz_of (show 1 ≤ 100000 by decide), fun p hp => ⟨p, v, rfl, upd_same, h.mono (Ex.new hp)⟩⟩
  · obtain ⟨p, v, rfl, hp, h⟩ := h
    exact ⟨_, (pss_cons (ps_expr (pe_clS1 CD (goes_of (W := fun cls d _ H => E cls d H) (takes_of rfl rfl rfl rfl) fun _ _ _ _ h => h) hr (by decide) (by rfl) (pv 0))) pss_never), ⟨_, rfl, p, [v], rfl, .inl (SqT.of hp), v, rfl, h⟩⟩
abbrev s_border : Stmt := top 100
abbrev nm_border : List Str := ["shape", "point", "odd", "cuts", "bends", "free", "held", "side", "pieces", "number", "_", "start", "row", "one", "two"]
theorem sc_border : FnScope nm_border ["shape"] (defScope s_border) := ⟨rfl, rfl, rfl, by decide +kernel, rfl, by decide +kernel, by decide +kernel⟩
theorem ok_border {f : Addr} {fd : FuncData} (F : Fun K "border" "border" s_border f fd) (CC : ClR P w K mg base 2 "check_shapes" (spChS CS CT)) : FnOk P w K mg base (L2.CX P w) 4 f fd ["shape"] (spRf CT) := by
  refine F.okX sc_border (fun vs H Q E h => ?_) (fun cdv A' outer s H vs Q E hr h => ?_)
  · obtain ⟨v, rfl, _⟩ := h
    rfl
  · obtain ⟨v, rfl, h⟩ := h
    exact ⟨_, (pss_cons (ps_expr (pe_clR CC (goes_of (W := fun cls d _ H => E cls d H) (takes_of rfl rfl rfl rfl) fun _ _ _ _ h => h) hr (by decide) (by rfl) (pa_cons (pv 0) pa_nil))) pss_never), q_rf rfl fun Q => chs_rf h⟩
abbrev s_body : Stmt := top 101
abbrev nm_body : List Str := ["shape"]
theorem sc_body : FnScope nm_body ["shape"] (defScope s_body) := ⟨rfl, rfl, rfl, by decide +kernel, rfl, by decide +kernel, by decide +kernel⟩
theorem ok_body {f : Addr} {fd : FuncData} (F : Fun K "body" "body" s_body f fd) (CC : ClR P w K mg base 2 "check_shapes" (spChS CS CT)) : FnOk P w K mg base (L2.CX P w) 4 f fd ["shape"] (spRf CT) := by
  refine F.okX sc_body (fun vs H Q E h => ?_) (fun cdv A' outer s H vs Q E hr h => ?_)
  · obtain ⟨v, rfl, _⟩ := h
    rfl
  · obtain ⟨v, rfl, h⟩ := h
    exact ⟨_, (pss_cons (ps_expr (pe_clR CC (goes_of (W := fun cls d _ H => E cls d H) (takes_of rfl rfl rfl rfl) fun _ _ _ _ h => h) hr (by decide) (by rfl) (pa_cons (pv 0) pa_nil))) pss_never), q_rf rfl fun Q => chs_rf h⟩
abbrev s_lines : Stmt := top 102
abbrev nm_lines : List Str := ["shape"]
theorem sc_lines : FnScope nm_lines ["shape"] (defScope s_lines) := ⟨rfl, rfl, rfl, by decide +kernel, rfl, by decide +kernel, by decide +kernel⟩
theorem ok_lines {f : Addr} {fd : FuncData} (F : Fun K "lines" "lines" s_lines f fd) (CC : ClR P w K mg base 2 "check_shapes" (spChS CS CT)) : FnOk P w K mg base (L2.CX P w) 4 f fd ["shape"] (spRf CT) := by
  refine F.okX sc_lines (fun vs H Q E h => ?_) (fun cdv A' outer s H vs Q E hr h => ?_)
  · obtain ⟨v, rfl, _⟩ := h
    rfl
  · obtain ⟨v, rfl, h⟩ := h
    exact ⟨_, (pss_cons (ps_expr (pe_clR CC (goes_of (W := fun cls d _ H => E cls d H) (takes_of rfl rfl rfl rfl) fun _ _ _ _ h => h) hr (by decide) (by rfl) (pa_cons (pv 0) pa_nil))) pss_never), q_rf rfl fun Q => chs_rf h⟩
abbrev s_lone : Stmt := top 103
abbrev nm_lone : List Str := ["shape"]
theorem sc_lone : FnScope nm_lone ["shape"] (defScope s_lone) := ⟨rfl, rfl, rfl, by decide +kernel, rfl, by decide +kernel, by decide +kernel⟩
theorem ok_lone {f : Addr} {fd : FuncData} (F : Fun K "lone" "lone" s_lone f fd) (CC : ClR P w K mg base 2 "check_shapes" (spChS CS CT)) : FnOk P w K mg base (L2.CX P w) 4 f fd ["shape"] (spRf CT) := by
  refine F.okX sc_lone (fun vs H Q E h => ?_) (fun cdv A' outer s H vs Q E hr h => ?_)
  · obtain ⟨v, rfl, _⟩ := h
    rfl
  · obtain ⟨v, rfl, h⟩ := h
    exact ⟨_, (pss_cons (ps_expr (pe_clR CC (goes_of (W := fun cls d _ H => E cls d H) (takes_of rfl rfl rfl rfl) fun _ _ _ _ h => h) hr (by decide) (by rfl) (pa_cons (pv 0) pa_nil))) pss_never), q_rf rfl fun Q => chs_rf h⟩
abbrev s_parts : Stmt := top 104
abbrev nm_parts : List Str := ["shape", "index", "_", "owners", "many", "groups", "held", "areas", "pieces", "told", "piece", "forms", "rings", "ring", "group", "point"]
theorem sc_parts : FnScope nm_parts ["shape"] (defScope s_parts) := ⟨rfl, rfl, rfl, by decide +kernel, rfl, by decide +kernel, by decide +kernel⟩
theorem ok_parts {f : Addr} {fd : FuncData} (F : Fun K "parts" "parts" s_parts f fd) (CC : ClR P w K mg base 2 "check_shapes" (spChS CS CT)) : FnOk P w K mg base (L2.CX P w) 4 f fd ["shape"] (spRf CT) := by
  refine F.okX sc_parts (fun vs H Q E h => ?_) (fun cdv A' outer s H vs Q E hr h => ?_)
  · obtain ⟨v, rfl, _⟩ := h
    rfl
  · obtain ⟨v, rfl, h⟩ := h
    exact ⟨_, (pss_cons (ps_expr (pe_clR CC (goes_of (W := fun cls d _ H => E cls d H) (takes_of rfl rfl rfl rfl) fun _ _ _ _ h => h) hr (by decide) (by rfl) (pa_cons (pv 0) pa_nil))) pss_never), q_rf rfl fun Q => chs_rf h⟩
abbrev s_area_shapes : Stmt := top 105
abbrev nm_area_shapes : List Str := ["shape", "told"]
theorem sc_area_shapes : FnScope nm_area_shapes ["shape"] (defScope s_area_shapes) := ⟨rfl, rfl, rfl, by decide +kernel, rfl, by decide +kernel, by decide +kernel⟩
theorem ok_area_shapes {f : Addr} {fd : FuncData} (F : Fun K "area_shapes" "area_shapes" s_area_shapes f fd) (CC : ClR P w K mg base 2 "check_shapes" (spChS CS CT)) : FnOk P w K mg base (L2.CX P w) 4 f fd ["shape"] (spRf CT) := by
  refine F.okX sc_area_shapes (fun vs H Q E h => ?_) (fun cdv A' outer s H vs Q E hr h => ?_)
  · obtain ⟨v, rfl, _⟩ := h
    rfl
  · obtain ⟨v, rfl, h⟩ := h
    exact ⟨_, (pss_cons (ps_expr (pe_clR CC (goes_of (W := fun cls d _ H => E cls d H) (takes_of rfl rfl rfl rfl) fun _ _ _ _ h => h) hr (by decide) (by rfl) (pa_cons (pv 0) pa_nil))) pss_never), q_rf rfl fun Q => chs_rf h⟩
abbrev s_knots : Stmt := top 107
abbrev nm_knots : List Str := ["shape", "found", "piece", "end"]
theorem sc_knots : FnScope nm_knots ["shape"] (defScope s_knots) := ⟨rfl, rfl, rfl, by decide +kernel, rfl, by decide +kernel, by decide +kernel⟩
theorem ok_knots {f : Addr} {fd : FuncData} (F : Fun K "knots" "knots" s_knots f fd) (CC : ClR P w K mg base 2 "check_shapes" (spChS CS CT)) : FnOk P w K mg base (L2.CX P w) 4 f fd ["shape"] (spRf CT) := by
  refine F.okX sc_knots (fun vs H Q E h => ?_) (fun cdv A' outer s H vs Q E hr h => ?_)
  · obtain ⟨v, rfl, _⟩ := h
    rfl
  · obtain ⟨v, rfl, h⟩ := h
    exact ⟨_, (pss_cons (ps_expr (pe_clR CC (goes_of (W := fun cls d _ H => E cls d H) (takes_of rfl rfl rfl rfl) fun _ _ _ _ h => h) hr (by decide) (by rfl) (pa_cons (pv 0) pa_nil))) pss_never), q_rf rfl fun Q => chs_rf h⟩
abbrev s_without_holes : Stmt := top 106
abbrev nm_without_holes : List Str := ["shape", "sheet", "rooms_in", "room"]
theorem sc_without_holes : FnScope nm_without_holes ["shape"] (defScope s_without_holes) := ⟨rfl, rfl, rfl, by decide +kernel, rfl, by decide +kernel, by decide +kernel⟩
theorem ok_without_holes {f : Addr} {fd : FuncData} (F : Fun K "without_holes" "without_holes" s_without_holes f fd) (CO : ClR P w K mg base 6 "sheet_of" (spRf CT)) : FnOk P w K mg base (L2.CX P w) 8 f fd ["shape"] (spRf CT) := by
  refine F.okX sc_without_holes (fun vs H Q E h => ?_) (fun cdv A' outer s H vs Q E hr h => ?_)
  · obtain ⟨v, rfl, _⟩ := h
    rfl
  · obtain ⟨v, rfl, h⟩ := h
    exact ⟨_, (pss_cons (ps_set (i := 1) sc_without_holes.nd rfl (Or.inl rfl) (pe_clR CO (goes_of (W := fun cls d _ H => E cls d H) (takes_of rfl rfl rfl rfl) fun _ _ _ _ h => h) hr (by decide) (by rfl) (pa_cons (pv 0) pa_nil))) pss_never), ⟨_, rfl, v, rfl, h⟩⟩
/-- the place of a point: a shape that is none; a point that is none -/
def spPlc (CS CT CP : Addr) : Sp := fun vs H Q E => ∃ v b, vs = [v, b] ∧ (Rf CT v H E ∨ (OkS CS H v ∧ (∃ t, Tr1 CS H b t ∧ t.isPt = false) ∧ Rs CP E H))
abbrev nmPlc : List Str := ["shape", "point"]
theorem scPlc : FnScope nmPlc ["shape", "point"] (defScope sPlc) := ⟨rfl, rfl, rfl, by decide +kernel, rfl, by decide +kernel, by decide +kernel⟩
theorem ok_plc {f : Addr} {fd : FuncData} (F : Fun K "place" "place" sPlc f fd) (EP : ErrE "InvalidPoint" K mg CP) (CC : ClR P w K mg base 2 "check_shapes" (spChS CS CT)) (CI : Cl P w K mg base 2 "is_point" (spIsPt CS)) : FnOk P w K mg base (L2.CX P w) 4 f fd ["shape", "point"] (spPlc CS CT CP) := by
  refine F.okX scPlc (fun vs H Q E h => ?_) (fun cdv A' outer s H vs Q E hr h => ?_)
  · obtain ⟨v, b, rfl, _⟩ := h
    rfl
  · obtain ⟨v, b, rfl, h⟩ := h
    refine ⟨_, (pss_cons (ps_expr (pe_clR CC (goes_of (W := fun cls d _ H => E cls d H) (takes_of rfl rfl rfl rfl) fun _ _ _ _ h => h) hr (by decide) (by rfl) (pa_cons (pv 0) pa_nil)))
      (pss_cons (ps_if (pt_not (pt_val (pe_cl CI hr (by decide) (by rfl) (pa_cons (pv 1) pa_nil)))) (pss_one (ps_raise (W := fun cls d _ H => E cls d H) rfl (takes_of rfl rfl rfl rfl) (SkE.pmk_own1 PySem.F.excBase_ValueError EP.x EP.g EP.kC (raises_own EP.be EP.typ) (by rfl) pe_str))) pss_nil) pss_never)), ?_⟩
    rcases h with h | ⟨h1, ⟨t, h2, h3⟩, h4⟩
    · exact q_rf rfl fun Q => chs_rf h
    · refine q_dr rfl ⟨(show 1 ≤ 1000 by decide), .inl ⟨fun u m => ?_, fun H1 e1 => ?_⟩⟩
      · rcases List.mem_singleton.mp m with rfl
        exact h1
      · exact q_when (b := true) (et_is (et_not (et_B (ev_ispt (ev_var (i := 1) rfl) (h2.mono e1)))) (by rw [h3]; rfl)) (fun _ H2 e2 => h4 H2 (e1.trans e2)) fun z => nomatch z
end
end Q
set_option Elab.async false
set_option linter.all false
set_option maxRecDepth 100000
set_option maxHeartbeats 4000000
/-! tuple(zip(a, b)) of one pair -/
namespace Zp
open PySem
open PySem.Sem (wp)
theorem nolen : typeLookup (.type "zip") "__len__" = pure none := by rw [typeLookup_type, builtinLookup_eq_fast]; kernel_rfl
theorem nohint : typeLookup (.type "zip") "__length_hint__" = pure none := by rw [typeLookup_type, builtinLookup_eq_fast]; kernel_rfl
section
variable {prog : Program} {w : World} {A : Around} {E : Value → Shared → Prop} {s : Shared}
theorem end_held {z TI TO T i1 i2 l1 l2 : Addr} {f : Bool} {oT : Obj} {k1 k2 : Nat} {xs ys : Array Value} {Q : Fin → Shared → Prop} (hh : A.handled = none) (D : ZipApart z TI TO i1 i2 l1 l2)
    (hz : IsZipHeld s.heap z TI TO T f) (hT : s.heap.get? T = some oT) (hTI : IsPair s.heap TI (.ref i1) (.ref i2))
    (h1 : s.heap.IsTupleIter i1 l1 k1) (h2 : s.heap.IsTupleIter i2 l2 k2) (hl1 : s.heap.IsTuple l1 xs) (hl2 : s.heap.IsTuple l2 ys) (hend : xs[k1]? = none ∨ ys[k2]? = none)
    (hE : ∀ h' e, (∀ c o, c ≠ z → c ≠ i1 → c ≠ i2 → s.heap.get? c = some o → h'.get? c = some o) → (∃ o, h'.get? e = some o ∧ o.cls = .type "StopIteration") → E (.ref e) { s with heap := h' }) :
    wpAny (model prog w) A (Builtin.«zip.__next__» ⟨[.ref z], []⟩) Q E s := by
  show wpAny _ _ (field (.ref z) 2 >>= _) _ _ _
  refine wpAny_bind (wpAny_field hz rfl (x := .bool false) rfl ?_)
  show wpAny _ _ (field (.ref z) 3 >>= _) _ _ _
  refine wpAny_bind (wpAny_field hz rfl (x := .ref TI) rfl ?_)
  refine wpAny_bind (wpAny_seqItems hTI rfl ?_)
  show wpAny _ _ (Builtin.SmallTypes.ownedTupleIsFree (.ref z) >>= _) _ _ _
  refine wpAny_bind (wpAny_tupleHeld_zip hz hT fun h₁ hz₁ hs₁ => ?_)
  simp only [Bool.false_eq_true, if_false]
  refine wpAny_bind ?_
  rw [← Array.forIn_toList]
  simp only [List.forIn_cons, List.forIn_nil]
  refine wpAny_bind (wpAny_bind (wpAny_holding ?_))
  show wpAny _ _ (Builtin.SmallTypes.nextOf (.ref i1) >>= _) _ _ _
  cases hx : xs[k1]? with
  | none =>
    refine wpAny_bind (RZ.nextOf_tuple_end (s := { s with heap := h₁ }) hh (h1.extBut hs₁.extBut D.i1z) (hl1.extBut hs₁.extBut D.l1z) hx fun h₂ e hs₂ he => ?_)
    exact hE h₂ e (fun c o c1 c2 _ x => hs₂ _ _ c2 (hs₁.extBut _ _ c1 x)) he
  | some x =>
    have hy : ys[k2]? = none := by rcases hend with h | h; rw [hx] at h; cases h; exact h
    refine wpAny_bind (RZ.nextOf_tuple_item (s := { s with heap := h₁ }) (h1.extBut hs₁.extBut D.i1z) (hl1.extBut hs₁.extBut D.l1z) hx fun h₂ h1₂ hs₂ => wpAny_pure ?_)
    refine wpAny_pure ?_
    refine wpAny_bind (wpAny_bind (wpAny_holding ?_))
    show wpAny _ _ (Builtin.SmallTypes.nextOf (.ref i2) >>= _) _ _ _
    refine wpAny_bind (RZ.nextOf_tuple_end (s := { s with heap := h₂ }) hh ((h2.extBut hs₁.extBut D.i2z).extBut hs₂.extBut D.i12.symm) ((hl2.extBut hs₁.extBut D.l2z).extBut hs₂.extBut D.l2i1) hy fun h₃ e hs₃ he => ?_)
    exact hE h₃ e (fun c o c1 c2 c3 x => hs₃ _ _ c3 (hs₂.extBut _ _ c2 (hs₁.extBut _ _ c1 x))) he
theorem next_end {z TI TO T i1 i2 l1 l2 : Addr} {f : Bool} {oT : Obj} {k1 k2 : Nat} {xs ys : Array Value} {Q : Option Value → Shared → Prop} (hh : A.handled = none) (D : ZipApart z TI TO i1 i2 l1 l2)
    (hz : IsZipHeld s.heap z TI TO T f) (hT : s.heap.get? T = some oT) (hTI : IsPair s.heap TI (.ref i1) (.ref i2))
    (h1 : s.heap.IsTupleIter i1 l1 k1) (h2 : s.heap.IsTupleIter i2 l2 k2) (hl1 : s.heap.IsTuple l1 xs) (hl2 : s.heap.IsTuple l2 ys) (hend : xs[k1]? = none ∨ ys[k2]? = none)
    (hQ : ∀ h', (∀ c o, c ≠ z → c ≠ i1 → c ≠ i2 → s.heap.get? c = some o → h'.get? c = some o) → Q none { s with heap := h' }) : wpAny (model prog w) A (pyNext (.ref z)) Q E s := by
  have hTy : s.TypeIs (.ref z) "zip" := ⟨_, hz, rfl⟩
  unfold pyNext
  refine wpAny_bind (wpAny_attempt (wpAny_callSpecial?_slot (name := Str.ofString "__next__") hTy F.slot_zip_next
    (wpAny_call_entry F.slot_zip_next hTy F.entry_zip_next (end_held hh D hz hT hTI h1 h2 hl1 hl2 hend fun h' e hk he => ?_) (F.args_zip_next_1 _))))
  obtain ⟨o, ho, hc⟩ := he
  refine wpAny_bind (wpAny_isInstance (T := "StopIteration") (b := true) ⟨o, ho, hc⟩ isSubtype_stop ?_)
  exact wpAny_pure (hQ _ hk)
/-- the one pair is taken into the list S, then the end -/
theorem loop1 {R : Result → Shared → Prop} {z TI TO i1 i2 l1 l2 S : Addr} {xs ys : Array Value} {x y a b res : Value} {c : Nat} (hh : A.in1.handled = none) (D : ZipApart z TI TO i1 i2 l1 l2)
    (hz : IsZip s.heap z TI TO .none) (hTI : IsPair s.heap TI (.ref i1) (.ref i2)) (hTO : IsPair s.heap TO a b)
    (h1 : s.heap.IsTupleIter i1 l1 0) (h2 : s.heap.IsTupleIter i2 l2 0) (hl1 : s.heap.IsTuple l1 xs) (hl2 : s.heap.IsTuple l2 ys) (hx : xs[0]? = some x) (hy : ys[0]? = some y) (hend : xs[1]? = none ∨ ys[1]? = none)
    (hS : s.heap.get? S = some { cls := .type "list", dict := none, data := .seq #[] c, slots := #[] }) (nS : S ≠ z ∧ S ≠ TI ∧ S ≠ TO ∧ S ≠ i1 ∧ S ≠ i2 ∧ S ≠ l1 ∧ S ≠ l2)
    (hR : ∀ h' p c', IsPair h' p x y → s.heap.objs.size ≤ p → (∀ c o, c ≠ z → c ≠ TO → c ≠ i1 → c ≠ i2 → c ≠ S → s.heap.get? c = some o → h'.get? c = some o) → h'.get? S = some { cls := .type "list", dict := none, data := .seq #[.ref p] c', slots := #[] } → R (.ok (.ret res)) { s with heap := h' }) :
    codeAny (model prog w) A (.builtin "list.extend.loop" ⟨[.ref S, .ref z, res], []⟩) R s := by
  obtain ⟨n1, n2, n3, n4, n5, n6, n7⟩ := nS
  refine codeAny_builtin F.entry_extend_loop ?_
  rw [Around.under_plainId F.plain_extend_loop _]
  show wpAny _ A.in1 (pyNext (.ref z) >>= _) _ _ s
  refine wpAny_bind (RZ.pyNext_zipT_item D hz hTI hTO h1 h2 hl1 hl2 hx hy fun h' hz' hTO' h1' h2' hp hsz hk => ?_)
  have hS' := hk S _ n1 n3 n4 n5 hS
  have hpS : s.heap.objs.size ≠ S := fun e => Nat.lt_irrefl _ (e ▸ Heap.lt_size hS)
  show wpAny _ A.in1 (updateSeq S (·.push (.ref s.heap.objs.size)) >>= _) _ _ _
  refine wpAny_bind ?_
  refine wpAny_updateSeq hS' rfl (wpAny_pure ⟨plainId_quiet F.plain_extend_loop _, ?_⟩) (by decide) (show 1 ≤ sizeLine + 1 by decide)
  have hS2 := Heap.get?_update_self (Obj.mapSeq (·.push (.ref s.heap.objs.size))) hS' rfl
  have oth : ∀ b o, b ≠ S → h'.get? b = some o → (h'.update S (Obj.mapSeq (·.push (.ref s.heap.objs.size)))).get? b = some o := fun b o n e => (Heap.get?_update_other _ _ (Ne.symm n)).trans e
  refine codeAny_builtin F.entry_extend_loop ?_
  rw [Around.under_plainId F.plain_extend_loop _]
  show wpAny _ A.in1 (pyNext (.ref z) >>= _) _ _ _
  have tl1 : (h'.update S (Obj.mapSeq (·.push (.ref s.heap.objs.size)))).IsTuple l1 xs := by
    obtain ⟨o, e1, r⟩ := hl1
    exact ⟨o, oth _ _ (Ne.symm n6) (hk _ _ D.l1z D.l1TO D.l1i1 D.l1i2 e1), r⟩
  have tl2 : (h'.update S (Obj.mapSeq (·.push (.ref s.heap.objs.size)))).IsTuple l2 ys := by
    obtain ⟨o, e1, r⟩ := hl2
    exact ⟨o, oth _ _ (Ne.symm n7) (hk _ _ D.l2z D.l2TO D.l2i1 D.l2i2 e1), r⟩
  have hzH : IsZipHeld (h'.update S (Obj.mapSeq (·.push (.ref s.heap.objs.size)))) z TI TO s.heap.objs.size false := oth _ _ (Ne.symm n1) hz'
  refine wpAny_bind (next_end (f := false) hh D hzH (oth _ _ hpS hp) (oth _ _ (Ne.symm n2) (hk _ _ D.TIz D.TITO D.TIi1 D.TIi2 hTI))
    (h1'.at fun o e => oth _ _ (Ne.symm n4) e) (h2'.at fun o e => oth _ _ (Ne.symm n5) e) tl1 tl2 hend fun h3 hk3 => ?_)
  have pz : s.heap.objs.size ≠ z := fun e => Nat.lt_irrefl _ (e ▸ Heap.lt_size hz)
  have p1 : s.heap.objs.size ≠ i1 := fun e => by
    obtain ⟨o, q, _⟩ := h1
    exact Nat.lt_irrefl _ (e ▸ Heap.lt_size q)
  have p2 : s.heap.objs.size ≠ i2 := fun e => by
    obtain ⟨o, q, _⟩ := h2
    exact Nat.lt_irrefl _ (e ▸ Heap.lt_size q)
  exact wpAny_pure (hR h3 s.heap.objs.size _ (hk3 _ _ pz p1 p2 (oth _ _ hpS hp)) (Nat.le_refl _) (fun c o c1 c2 c3 c4 c5 e => hk3 _ _ c1 c3 c4 (oth _ _ c5 (hk _ _ c1 c2 c3 c4 e))) (hk3 _ _ n1 n4 n5 hS2))
theorem collect1 {z TI TO i1 i2 l1 l2 : Addr} {xs ys : Array Value} {x y a b : Value} {Q : List Value → Shared → Prop} (hh : A.in1.handled = none) (D : ZipApart z TI TO i1 i2 l1 l2)
    (hz : IsZip s.heap z TI TO .none) (hTI : IsPair s.heap TI (.ref i1) (.ref i2)) (hTO : IsPair s.heap TO a b)
    (h1 : s.heap.IsTupleIter i1 l1 0) (h2 : s.heap.IsTupleIter i2 l2 0) (hl1 : s.heap.IsTuple l1 xs) (hl2 : s.heap.IsTuple l2 ys) (hx : xs[0]? = some x) (hy : ys[0]? = some y) (hend : xs[1]? = none ∨ ys[1]? = none)
    (hQ : ∀ h' p, IsPair h' p x y → s.heap.objs.size ≤ p → (∀ c o, c ≠ z → c ≠ TO → c ≠ i1 → c ≠ i2 → s.heap.get? c = some o → h'.get? c = some o) → Q [.ref p] { s with heap := h' }) : wpAny (model prog w) A (collect (.ref z)) Q E s := by
  have lt : ∀ {c : Addr} {o : Obj}, s.heap.get? c = some o → s.heap.objs.size ≠ c := fun e q => Nat.lt_irrefl _ (q ▸ Heap.lt_size e)
  have li1 : s.heap.objs.size ≠ i1 := by obtain ⟨o, q, _⟩ := id h1; exact lt q
  have li2 : s.heap.objs.size ≠ i2 := by obtain ⟨o, q, _⟩ := id h2; exact lt q
  have ll1 : s.heap.objs.size ≠ l1 := by obtain ⟨o, q, _⟩ := id hl1; exact lt q
  have ll2 : s.heap.objs.size ≠ l2 := by obtain ⟨o, q, _⟩ := id hl2; exact lt q
  have hT : ∀ h : Heap, IsZip h z TI TO .none → ({ s with heap := h } : Shared).TypeIs (.ref z) "zip" := fun h q => ⟨_, q, rfl⟩
  unfold collect
  refine wpAny_bind (wpAny_runValue (codeAny_builtin F.entry_proto_collect ?_))
  rw [Around.under_plainId F.plain_proto_collect _]
  show wpAny _ A.in1 (newList [] >>= fun l => again (.builtin "list.__iadd__" ⟨[l, .ref z], []⟩)) _ _ s
  refine wpAny_bind (wpAny_newObj_type ?_)
  refine wpAny_pure ⟨plainId_quiet F.plain_list_iadd _, codeAny_builtin F.entry_list_iadd ?_⟩
  rw [Around.under_plainId F.plain_list_iadd _]
  have hz1 : IsZip (s.heap.push { cls := .type "list", data := .seq ([] : List Value).toArray }) z TI TO .none := Heap.get?_push_of_some _ hz
  show wpAny _ A.in1 (Builtin.List.listExtendWith (.ref s.heap.objs.size) (.ref z) (.ref s.heap.objs.size)) _ _ _
  unfold Builtin.List.listExtendWith
  refine wpAny_bind (wpAny_typeOf (hT _ hz1) ?_)
  have hs1 : Builtin.List.listSameRef (.ref s.heap.objs.size) (.ref z) = false := by simp [Builtin.List.listSameRef, lt hz]
  have hs2 : (Value.type "zip" == Value.type "list") = false := by decide
  have hs3 : (Value.type "zip" == Value.type "tuple") = false := by decide
  simp only [hs1, hs2, hs3, Bool.or_false, Bool.false_eq_true, if_false]
  refine wpAny_bind (wpAny_pyIter_zip hz1 ?_)
  refine wpAny_bind (wpAny_holding ?_)
  unfold Builtin.List.listLengthHint
  refine wpAny_bind (wpAny_specialOf (hT _ hz1) nolen ?_)
  show wpAny _ A.in1 (specialOf (Value.ref z) (Str.ofString "__length_hint__") >>= _) _ _ _
  refine wpAny_bind (wpAny_specialOf (hT _ hz1) nohint ?_)
  refine wpAny_pure ?_
  show wpAny _ A.in1 (rule "list.extend.makes-room" >>= fun _ => Builtin.List.listTouch (.ref s.heap.objs.size) >>= fun _ =>
    again (.builtin "list.extend.loop" ⟨[.ref s.heap.objs.size, .ref z, .ref s.heap.objs.size], []⟩)) _ _ _
  refine wpAny_bind (wpAny_rule ?_)
  have hS₁ : (s.heap.push { cls := .type "list", data := .seq ([] : List Value).toArray }).get? s.heap.objs.size = some { cls := .type "list", data := .seq ([] : List Value).toArray } := Heap.get?_push_size _ rfl
  refine wpAny_bind ?_
  show wpAny _ A.in1 (updateSeq s.heap.objs.size (·.push .none) >>= fun _ => updateSeq s.heap.objs.size (·.pop)) _ _ _
  refine wpAny_bind (wpAny_updateSeq hS₁ rfl ?_)
  have hS₂ := Heap.get?_update_self (Obj.mapSeq (·.push Value.none)) hS₁ rfl
  refine wpAny_updateSeq hS₂ rfl ?_
  have hS₃ := Heap.get?_update_self (Obj.mapSeq (·.pop)) hS₂ rfl
  have oth : ∀ b o, s.heap.get? b = some o →
      (((s.heap.push { cls := .type "list", data := .seq ([] : List Value).toArray }).update s.heap.objs.size (Obj.mapSeq (·.push Value.none))).update s.heap.objs.size (Obj.mapSeq (·.pop))).get? b = some o :=
    fun b o e => (Heap.get?_update_other _ _ (lt e)).trans ((Heap.get?_update_other _ _ (lt e)).trans (Heap.get?_push_of_some _ e))
  have tl1 : (((s.heap.push { cls := .type "list", data := .seq ([] : List Value).toArray }).update s.heap.objs.size (Obj.mapSeq (·.push Value.none))).update s.heap.objs.size (Obj.mapSeq (·.pop))).IsTuple l1 xs := by
    obtain ⟨o, e1, r⟩ := hl1
    exact ⟨o, oth _ _ e1, r⟩
  have tl2 : (((s.heap.push { cls := .type "list", data := .seq ([] : List Value).toArray }).update s.heap.objs.size (Obj.mapSeq (·.push Value.none))).update s.heap.objs.size (Obj.mapSeq (·.pop))).IsTuple l2 ys := by
    obtain ⟨o, e1, r⟩ := hl2
    exact ⟨o, oth _ _ e1, r⟩
  have sz : (((s.heap.push { cls := .type "list", data := .seq ([] : List Value).toArray }).update s.heap.objs.size (Obj.mapSeq (·.push Value.none))).update s.heap.objs.size (Obj.mapSeq (·.pop))).objs.size = s.heap.objs.size + 1 := by
    rw [Heap.size_update, Heap.size_update, Heap.size_push]
  refine wpAny_pure ⟨plainId_quiet F.plain_extend_loop _, loop1 hh D (oth _ _ hz) (oth _ _ hTI) (oth _ _ hTO) (h1.at fun o e => oth _ _ e) (h2.at fun o e => oth _ _ e) tl1 tl2 hx hy hend hS₃ ⟨lt hz, lt hTI, lt hTO, li1, li2, ll1, ll2⟩ fun h' p c' hp hpl hk hS' => ?_⟩
  show wpAny _ A (load s.heap.objs.size >>= _) _ _ _
  refine wpAny_bind (wpAny_load hS' ?_)
  exact wpAny_pure (hQ h' p hp (by
    have hpl : _ ≤ p := hpl
    rw [sz] at hpl
    exact Nat.le_of_succ_le hpl) fun c o c1 c2 c3 c4 e => hk _ _ c1 c2 c3 c4 (Ne.symm (lt e)) (oth _ _ e))
theorem call1 {z TI TO i1 i2 l1 l2 : Addr} {xs ys : Array Value} {x y a b : Value} {Q : Value → Shared → Prop} (hh : A.handled = none) (D : ZipApart z TI TO i1 i2 l1 l2)
    (hz : IsZip s.heap z TI TO .none) (hTI : IsPair s.heap TI (.ref i1) (.ref i2)) (hTO : IsPair s.heap TO a b)
    (h1 : s.heap.IsTupleIter i1 l1 0) (h2 : s.heap.IsTupleIter i2 l2 0) (hl1 : s.heap.IsTuple l1 xs) (hl2 : s.heap.IsTuple l2 ys) (hx : xs[0]? = some x) (hy : ys[0]? = some y) (hend : xs[1]? = none ∨ ys[1]? = none)
    (hQ : ∀ h' p, IsPair h' p x y → s.heap.objs.size ≤ p → (∀ c o, c ≠ z → c ≠ TO → c ≠ i1 → c ≠ i2 → s.heap.get? c = some o → h'.get? c = some o) → Q (.ref h'.objs.size) { s with heap := h'.push { cls := .type "tuple", data := .seq #[.ref p] } }) :
    wpAny (model prog w) A (call (.type "tuple") [.ref z]) Q E s := by
  refine callType_codes (Q₁ := fun obj s₁ => s₁.TypeIs obj "tuple" ∧ Q obj s₁) F.called_tuple (F.typeCall_tuple_1 _) F.entry_object_init ?_ fun obj s₁ h₁ => ?_
  · refine codeAny_of_tree ?_
    show wpAny _ A.in1.in1 (do checkBuiltinCall "tuple.__new__" ⟨[.type "tuple", .ref z], []⟩; again (.builtin "tuple.__new__" ⟨[.type "tuple", .ref z], []⟩)) _ _ s
    refine wpAny_bind (wpAny_of_eq (F.newCall_tuple_1 _) (wpAny_pure ⟨plainId_quiet F.plain_tuple_new _, codeAny_builtin F.entry_tuple_new ?_⟩))
    rw [Around.under_plainId F.plain_tuple_new _]
    have hsub := sub_tuple_self
    have hinit := init_tuple_lookup
    have hmh := madeHere_tuple
    have hTI0 : s.TypeIs (.ref z) "zip" := ⟨_, hz, rfl⟩
    have co : ∀ {A' : Around} {E' : Value → Shared → Prop} {Q' : List Value → Shared → Prop}, A'.handled = none → (∀ h' p, IsPair h' p x y → s.heap.objs.size ≤ p → (∀ c o, c ≠ z → c ≠ TO → c ≠ i1 → c ≠ i2 → s.heap.get? c = some o → h'.get? c = some o) → Q' [.ref p] { s with heap := h' }) → wpAny (model prog w) A' (collect (.ref z)) Q' E' s :=
      fun hh' q => collect1 hh' D hz hTI hTO h1 h2 hl1 hl2 hx hy hend q
    have hh2 : A.in1.in1.handled = none := hh
    wp_walk using wpAny_typeOf hTI0, co hh2
    intro h' p hp hpl hk
    show wpAny _ _ (Builtin.Tuple.tupleExact [Value.ref p].toArray >>= fun v => ret v) _ _ _
    unfold Builtin.Tuple.tupleExact
    refine wpAny_bind (wpAny_newObj_type ?_ (by show 1 ≤ sizeLine; decide))
    refine wpAny_pure ?_
    exact ⟨⟨_, Heap.get?_push_size _ rfl, rfl⟩, hQ h' p hp hpl hk⟩
  · exact ⟨h₁.1, F.args_object_init_2 obj _, object_init_meets F.called_tuple.init.lookup F.called_tuple.made (by decide) prog w A.in1 _ s₁ ⟨h₁.1, rfl, h₁.2⟩⟩
end
end Zp
namespace Q
open PySem L2 PySem.Spec PyProof.Rows PySem.Calls PySem.OwnX
open Evl
def tTupZip (K : PySem.W.Frag) (ta : TA) : TE := fun σ H Q => ta σ H fun vs H1 => ∃ (a b : Addr) (x x' y : V), vs = [.ref a, .ref b] ∧ SqT K H1 a [x, x'] ∧ SqT K H1 b [y] ∧ ∀ p, H1 p = none → ∀ t, upd H1 p (.tup [x, y]) t = none → Q (.ref t) (upd (upd H1 p (.tup [x, y])) t (.tup [.ref p]))
/-- tuple(zip(a, b)), a of two values and b of one -/
theorem pe_tupZip {X : Cx} {e e2 : Expr} {ta : TA} {p p2 pos pos2 : Pos} (hc : X.calm = true) (hg : Gl X "tuple") (hm : X.mg "tuple" = none) (hg2 : Gl X "zip") (hm2 : X.mg "zip" = none) (ha : PA X [e, e2] ta)
    (hv : bootBuiltins "tuple" = some (.type "tuple") := by decide +kernel)
    (hs1 : starEach [.Call (.Name "zip" p2) [e, e2] [] pos2] X.env = (false, eval (.Call (.Name "zip" p2) [e, e2] [] pos2) X.env) :: starEach [] X.env := by rfl)
    (hs : starEach [e, e2] X.env = (false, eval e X.env) :: starEach [e2] X.env := by rfl) (hpl : (backTo pos2 (starEach [e2] X.env)).any (·.1) = false := by rfl) :
    PE X (.Call (.Name "tuple" p) [.Call (.Name "zip" p2) [e, e2] [] pos2] [] pos) (tTupZip X.K ta) := by
  refine ⟨fun pins s σ H Q I h => ?_⟩
  refine Call_ (ld_blt I hg hm hv (PyProof.Rows.callWith_type1 (args_cons ?_ hs1) hs1 rfl))
  refine Call_ (ld_blt I hg2 hm2 PyProof.Rows.boot_zip (PyProof.Rows.callWith_type1 (thn (ha.run pos2 pins s σ H _ I h) fun us s1 ⟨vs, H1, I1, r1, q1⟩ => ?_) hs hpl))
  obtain ⟨a, b, x, x', y, ex, hqx, hqy, q⟩ := q1
  subst ex
  cases r1 with
  | cons r rr =>
    cases rr with
    | cons r' rr =>
      cases rr
      cases r
      cases r'
      obtain ⟨its, rv, p1, _⟩ := I1.tuple hqx
      obtain ⟨its2, rv2, p2, _⟩ := I1.tuple hqy
      obtain ⟨o1, ho1, _⟩ := id p1
      obtain ⟨o2, ho2, _⟩ := id p2
      have la := Heap.lt_size ho1
      have lb := Heap.lt_size ho2
      obtain ⟨u0, u1, rfl, rx, rx'⟩ : ∃ u0 u1, its = [u0, u1] ∧ RelV x u0 ∧ RelV x' u1 := by
        cases rv with
        | cons rx rv =>
          cases rv with
          | cons rx' rv =>
            cases rv
            exact ⟨_, _, rfl, rx, rx'⟩
      obtain ⟨w0, rfl, ry⟩ : ∃ w0, its2 = [w0] ∧ RelV y w0 := by
        cases rv2 with
        | cons ry rv2 =>
          cases rv2
          exact ⟨_, rfl, ry⟩
      refine RZ.call_zipT (show s1.heap.IsTuple a _ from p1) (show s1.heap.IsTuple b _ from p2) fun h' hz hTI hTO h1 h2 hsz hk => args_nil ?_
      have t1 : h'.IsTuple a [u0, u1].toArray := by
        obtain ⟨o, e1, r⟩ := show s1.heap.IsTuple a _ from p1
        exact ⟨o, hk _ _ e1, r⟩
      have t2 : h'.IsTuple b [w0].toArray := by
        obtain ⟨o, e1, r⟩ := show s1.heap.IsTuple b _ from p2
        exact ⟨o, hk _ _ e1, r⟩
      refine Zp.call1 (s := { s1 with heap := h' }) (I1.ok.hd hc) (PySem.W.ktu_apart s1.heap.objs.size a b la lb) hz hTI hTO h1 h2 t1 t2 rfl rfl (.inr rfl) fun h3 pa hp hpl hk3 => ?_
      have hpl' : s1.heap.objs.size ≤ pa := by
        have z : h'.objs.size ≤ pa := hpl
        omega
      have kp : ∀ c o, s1.heap.get? c = some o → h3.get? c = some o := fun c o e => by
        have l := Heap.lt_size e
        exact hk3 c o (Nat.ne_of_lt (Nat.lt_of_lt_of_le l (Nat.le_add_right _ _))) (Nat.ne_of_lt (Nat.lt_of_lt_of_le l (Nat.le_add_right _ _))) (Nat.ne_of_lt l) (Nat.ne_of_lt (Nat.lt_of_lt_of_le l (Nat.le_add_right _ _))) (hk c o e)
      have I2 : Inv X pins σ (upd H1 pa (.tup [x, y])) { s1 with heap := h3 } := I1.laid (t' := s1.toks) kp hpl' (show ObjOk X.prog X.w _ _ _ (.tup [x, y]) from ⟨by show 2 ≤ sizeLine; decide, [u0, w0], .cons rx (.cons ry .nil), ⟨_, hp, rfl, _, rfl⟩⟩)
      have I3 : Inv X pins σ (upd (upd H1 pa (.tup [x, y])) h3.objs.size (.tup [.ref pa])) { s1 with heap := h3.push { cls := .type "tuple", data := .seq #[.ref pa] } } := I2.laid (t' := s1.toks) (fun b o e => Heap.get?_push_of_some _ e) (Nat.le_refl _) (show ObjOk X.prog X.w _ _ _ (.tup [.ref pa]) from ⟨by show 1 ≤ sizeLine; decide, [.ref pa], .cons rfl .nil, ⟨_, Heap.get?_push_size _ rfl, rfl, _, rfl⟩⟩)
      exact ⟨.ref h3.objs.size, _, I3, rfl, q pa (I1.hok.fresh hpl') _ (I2.hok.fresh (Nat.le_refl _))⟩
end Q
set_option Elab.async false
set_option linter.all false
set_option maxRecDepth 100000
set_option maxHeartbeats 4000000
/-! filled, area, line, dots, empty -/
namespace Q
open PySem L2 PySem.Spec PyProof.Rows PySem.Calls PySem.OwnX
open Evl
abbrev sFil : Stmt := top 95
abbrev sAre : Stmt := top 94
abbrev sLin : Stmt := top 96
abbrev sDot : Stmt := top 97
abbrev sEmp : Stmt := top 98
/-- a shape of few points -/
def SShp (C : Addr) (v : V) (H : Hp) : Prop := ∃ b S, v = .ref b ∧ S.length ≤ 200 ∧ Sh C H b S
theorem SShp.mono {C : Addr} {v : V} {H H' : Hp} (h : SShp C v H) (e : Ex H H') : SShp C v H' := by
  obtain ⟨b, S, rfl, l, s⟩ := h
  exact ⟨b, S, rfl, l, s.mono e⟩
theorem si_go {CS CT CM : Addr} {x y z : V} {H : Hp} {Q : VK} {E : XK} (h : SiE CS CT CM x y z H E (∀ v H', Ex H H' → SShp CS v H' → Q v H')) (a dx : Addr) (na : H a = none) (ndx : H dx = none) (ne : dx ≠ a) :
    spSI CS CT CM [.ref a, x, y, z] (upd (upd H dx (.own a)) a (.ins CS dx [])) (fun v H4 => v = .non ∧ Q (.ref a) H4) E := by
  have up := made_up (o1 := .ins CS dx []) (o2 := .own a) na ndx ne
  refine ⟨a, dx, x, y, z, rfl, upd_same, ?_⟩
  rcases h with ⟨h, r⟩ | ⟨h, r⟩ | ⟨h, q⟩
  · exact .inl ⟨h.mono up, r.mono up⟩
  · exact .inr (.inl ⟨h.mono up, r.mono up⟩)
  · exact .inr (.inr ⟨h.mono up, fun S H' kp l s => ⟨rfl, q _ H' (made_ex na ndx kp) ⟨a, S, rfl, l, s⟩⟩⟩)
/-- refused, or the shape -/
def BadA (f : Tr → Bool) (n : Nat) (CS CT : Addr) (vs : List V) (H : Hp) (E : XK) : Prop := ∃ us, Trs CS H vs us ∧ Fw n (.tup us) ∧ f (.tup us) = false ∧ Rs CT E H
theorem BadA.mono {f : Tr → Bool} {n : Nat} {CS CT : Addr} {vs : List V} {H H' : Hp} {E : XK} (h : BadA f n CS CT vs H E) (e : Ex H H') : BadA f n CS CT vs H' E := by
  obtain ⟨us, h1, h2, h3, h4⟩ := h
  exact ⟨us, h1.mono e, h2, h3, h4.mono e⟩
def QS (CS : Addr) (H : Hp) (Q : VK) : Prop := ∀ v H', Ex H H' → SShp CS v H' → Q v H'
theorem QS.mono {CS : Addr} {H H' : Hp} {Q : VK} (h : QS CS H Q) (e : Ex H H') : QS CS H' Q := fun v H2 e2 s => h v H2 (e.trans e2) s
/-- a ring of one point, told n times -/
def Rep (n : Nat) (p : Pt) : List Pt := List.replicate n p
/-- a star def's spec, by the tuple of its values -/
def Star (G : List V → Hp → VK → XK → Prop) : Sp := fun vs H Q E => ∃ p rest, vs = [.ref p] ∧ H p = some (.tup rest) ∧ G rest H Q E
def spDot (CS CT : Addr) : Sp := fun vs H Q E => vs.length ≤ 1000 ∧ BadA Tr.cors 1 CS CT vs H E
def spFil (CS CT : Addr) : Sp := fun vs H Q E => vs.length ≤ 1000 ∧ (BadA Tr.area 2 CS CT vs H E ∨ ((∃ v n p, vs = [v] ∧ TD1 H v (ringD (List.replicate n p)) ∧ 3 ≤ n ∧ n ≤ 100) ∧ QS CS H Q))
def spAre (CS CT : Addr) : Sp := fun vs H Q E => vs.length ≤ 1000 ∧ (BadA Tr.ring 1 CS CT vs H E ∨ ((∃ n p, TDs H vs ((List.replicate n p).map c2) ∧ 3 ≤ n ∧ n ≤ 100) ∧ QS CS H Q))
def Tr.line (t : Tr) : Bool := t.cors && decide (2 ≤ t.kids.length)
def spLin (CS CT : Addr) : Sp := fun vs H Q E => vs.length ≤ 1000 ∧ (BadA Tr.line 1 CS CT vs H E ∨ ((∃ p, TDs H vs [c2 p, c2 p] ∧ PsB [p]) ∧ QS CS H Q))
def spEmp (CS : Addr) : Sp := fun vs H Q _ => vs = [] ∧ QS CS H Q
theorem td_nil {H : Hp} {v : V} (h : TD1 H v (.tuple [])) : Tr1 CS H v (.tup []) := tr1_of h .nil
theorem fw_nil (n : Nat) : Fw n (.tup []) := by
  cases n with
  | zero => exact True.intro
  | succ n => exact ⟨Nat.zero_le _, fun _ m => nomatch m⟩
section
variable {P : Program} {w : World} {K : PySem.W.Frag} {mg : Str → Option Value} {base : Heap} {CS CT CM : Addr}
abbrev nmDot : List Str := ["points"]
theorem scDot : FnScope nmDot (([] : List Str) ++ [("points" : Str)]) (defScope sDot) := ⟨rfl, rfl, rfl, by decide +kernel, rfl, by decide +kernel, by decide +kernel⟩
theorem ok_dot {f : Addr} {fd : FuncData} (F : Fun K "dots" "dots" sDot f fd) (S : SC K mg CS) (MS : MqX P w K mg base 8 CS (spSI CS CT CM)) : FnR P w K mg base (L2.CX P w) 11 f (spDot CS CT) := by
  obtain ⟨oc, od, kV, doc, pm, an, cdv, ct, osl, rfl, lk, hcd⟩ := F.ex
  have z := StX.fn_star (P := P) (w := w) (mg := mg) (base := base) (CX := L2.CX P w) (k := 10) (N := nmDot) (ps := []) (pv := "points") (sp := Star fun vs H Q E => spDot CS CT vs H Q E) lk hcd scDot StX.cxUp (fun us rest h => bind_star0 (B := fun us => bindArgs (PySem.W.fnOf "dots" "dots" (defArgs sDot) (defBody sDot) (defScope sDot) .none kV doc pm an cdv ct) ⟨us, []⟩) rfl (fun _ _ => rfl) us rest h) (fun A' outer s H vs Q E hr h => ?_)
  · refine z.imp fun vs H Q E h => ?_
    exact ⟨[], vs, rfl, rfl, sz_of (Nat.le_trans h.1 (by decide)), fun p hp => ⟨p, vs, rfl, upd_same, h.1, h.2.mono (Ex.new hp)⟩⟩
  · obtain ⟨p, rest, rfl, hp, hl, us, h1, h2, h3, h4⟩ := h
    refine ⟨_, (pss_one (ps_ret (pe_mqX MS (goes_of (W := fun cls d _ H => E cls d H) (takes_of rfl rfl rfl rfl) fun _ _ _ _ h => h) hr (by decide) (by rfl) S.g (pa_cons (pe_tup pa_nil) (pa_cons (pe_tup pa_nil) (pa_cons (pv 0) pa_nil)))))), ?_⟩
    refine s_retQ (go_mk3 ((ed_tup (ds := []) da_nil (by decide)) H (Ex.refl _) _ fun x H1 e1 tx => ?_))
    refine (ed_tup (ds := []) da_nil (by decide)) H1 (Ex.refl _) _ fun y H2 e2 ty => ?_
    have e12 := e1.trans e2
    exact ⟨_, rfl, fun a dx na ndx ne => si_go (.inl ⟨⟨.tup [], .tup [], .tup us, td_nil (tx.mono e2), td_nil ty, Tr1.mk (e12 _ _ hp) (h1.mono e12), fw_nil 3, fw_nil 2, h2, by
      show (true && (true && Tr.cors (.tup us))) = false
      rw [h3]
      rfl⟩, h4.mono e12⟩) a dx na ndx ne⟩
abbrev nmEmp : List Str := []
theorem scEmp : FnScope nmEmp [] (defScope sEmp) := ⟨rfl, rfl, rfl, by decide +kernel, rfl, by decide +kernel, by decide +kernel⟩
theorem pts_nil3 {H : Hp} {x y z : V} (tx : TD1 H x (.tuple [])) (ty : TD1 H y (.tuple [])) (tz : TD1 H z (.tuple [])) : Pts3 H x y z := ⟨[], [], [], ⟨tx, ty, tz, Nat.zero_le _, (fun _ m => nomatch m), Nat.zero_le _, Nat.zero_le _⟩, (fun _ m => nomatch m), ⟨(fun _ m => nomatch m), fun _ m => nomatch m⟩, ⟨Nat.zero_le _, fun _ m => nomatch m⟩, Nat.zero_le _⟩
theorem ok_emp {f : Addr} {fd : FuncData} (F : Fun K "empty" "empty" sEmp f fd) (S : SC K mg CS) (MS : MqX P w K mg base 8 CS (spSI CS CT CM)) : FnOk P w K mg base CX0 10 f fd [] (spEmp CS) := by
  refine F.ok scEmp (fun vs H Q E h => ?_) (fun cdv A' outer s H vs Q E hr h => ?_)
  · obtain ⟨rfl, _⟩ := h
    rfl
  · obtain ⟨rfl, q⟩ := h
    refine ⟨_, (pss_one (ps_ret (pe_mqX MS goes0 hr (by decide) (by rfl) S.g (pa_cons (pe_tup pa_nil) (pa_cons (pe_tup pa_nil) (pa_cons (pe_tup pa_nil) pa_nil)))))), ?_⟩
    exact s_retQ (go_tups3 fun x y z H1 e1 tx ty tz a dx na ndx ne => si_go (CT := CT) (CM := CM) (.inr (.inr ⟨pts_nil3 tx ty tz, q.mono e1⟩)) a dx na ndx ne)
abbrev nmFil : List Str := ["rings"]
theorem scFil : FnScope nmFil (([] : List Str) ++ [("rings" : Str)]) (defScope sFil) := ⟨rfl, rfl, rfl, by decide +kernel, rfl, by decide +kernel, by decide +kernel⟩
theorem ring_ok {n : Nat} {p : Pt} (h : 3 ≤ n) : (ringT (List.replicate n p)).ring = true := by
  show ((Tr.tup ((List.replicate n p).map cT)).cors && decide (3 ≤ ((List.replicate n p).map cT).length)) = true
  rw [cors_map, List.length_map, List.length_replicate, decide_eq_true h]
  rfl
theorem ok_fil {f : Addr} {fd : FuncData} (F : Fun K "filled" "filled" sFil f fd) (S : SC K mg CS) (ES : ErrE "InvalidShape" K mg CT) (CA : Cl P w K mg base 6 "is_told_area" (spJ CS 2 Tr.area)) (MS : MqX P w K mg base 8 CS (spSI CS CT CM)) : FnR P w K mg base (L2.CX P w) 11 f (spFil CS CT) := by
  obtain ⟨oc, od, kV, doc, pm, an, cdv, ct, osl, rfl, lk, hcd⟩ := F.ex
  have z := StX.fn_star (P := P) (w := w) (mg := mg) (base := base) (CX := L2.CX P w) (k := 10) (N := nmFil) (ps := []) (pv := "rings") (sp := Star fun vs H Q E => spFil CS CT vs H Q E) lk hcd scFil StX.cxUp (fun us rest h => bind_star0 (B := fun us => bindArgs (PySem.W.fnOf "filled" "filled" (defArgs sFil) (defBody sFil) (defScope sFil) .none kV doc pm an cdv ct) ⟨us, []⟩) rfl (fun _ _ => rfl) us rest h) (fun A' outer s H vs Q E hr h => ?_)
  · refine z.imp fun vs H Q E h => ?_
    obtain ⟨hl, h⟩ := h
    refine ⟨[], vs, rfl, rfl, sz_of (Nat.le_trans hl (by decide)), fun p hp => ⟨p, vs, rfl, upd_same, hl, ?_⟩⟩
    have e := Ex.new (o := .tup vs) hp
    rcases h with h | ⟨⟨v, n, c, rfl, t, l1, l2⟩, q⟩
    · exact .inl (h.mono e)
    · exact .inr ⟨⟨v, n, c, rfl, t.mono e, l1, l2⟩, q.mono e⟩
  · obtain ⟨p, rest, rfl, hp, hl, h⟩ := h
    refine ⟨_, (pss_cons (ps_if (pt_not (pt_val (pe_cl CA hr (by decide) (by rfl) (pa_cons (pv 0) pa_nil)))) (pss_one (ps_raise (W := fun cls d _ H => E cls d H) rfl (takes_of rfl rfl rfl rfl) (SkE.pmk_own1 PySem.F.excBase_ValueError ES.x ES.g ES.kC (raises_own ES.be ES.typ) (by rfl) pe_str))) pss_nil)
      (pss_one (ps_ret (pe_mqX MS (goes_of (W := fun cls d _ H => E cls d H) (takes_of rfl rfl rfl rfl) fun _ _ _ _ h => h) hr (by decide) (by rfl) S.g (pa_cons (pe_tup (pa_cons (pv 0) pa_nil)) (pa_cons (pe_tup pa_nil) (pa_cons (pe_tup pa_nil) pa_nil))))))), ?_⟩
    rcases h with ⟨us, h1, h2, h3, h4⟩ | ⟨⟨v, n, c, rfl, t, l1, l2⟩, q⟩
    · exact q_when (b := true) (et_is (et_not (et_B (ev_j (n := 2) (f := Tr.area) (ev_var (i := 0) rfl) (Tr1.mk hp h1) h2))) (by rw [h3]; rfl)) (fun _ H1 e1 => h4 H1 e1) fun z => nomatch z
    · have t0 : TD1 H (.ref p) (.tuple [ringD (List.replicate n c)]) := TD1.mk hp (.cons t .nil)
      have tr : Tr1 CS H (.ref p) (areaT [List.replicate n c]) := tr1_of t0 (trd_area [List.replicate n c])
      have fw : Fw 2 (areaT [List.replicate n c]) := ⟨(show 1 ≤ 1000 by decide), fun u m => by
        rcases List.mem_singleton.mp m with rfl
        refine ⟨?_, fun _ _ => True.intro⟩
        show ((List.replicate n c).map cT).length ≤ 1000
        rw [List.length_map, List.length_replicate]
        omega⟩
      have ar : (areaT [List.replicate n c]).area = true := by
        show (decide (1 ≤ 1) && ((ringT (List.replicate n c)).ring && true)) = true
        rw [ring_ok l1]
        rfl
      refine q_not (et_is (et_not (et_B (ev_j (n := 2) (f := Tr.area) (ev_var (i := 0) rfl) tr fw))) (by rw [ar]; rfl)) fun H1 e1 => ?_
      refine s_retQ (go_mk3 ((ed_tup (ds := [areaD [List.replicate n c]]) (da_cons (ed_var (i := 0) rfl (t0.mono e1)) da_nil) (show 1 ≤ 100000 by decide)) H1 (Ex.refl _) _ fun x H2 e2 tx => ?_))
      refine (ed_tup (ds := []) da_nil (by decide)) H2 (Ex.refl _) _ fun y H3 e3 ty => ?_
      refine (ed_tup (ds := []) da_nil (by decide)) H3 (Ex.refl _) _ fun z H4 e4 tz => ?_
      have e34 := e3.trans e4
      have pts : Pts3 H4 x y z := ⟨[[List.replicate n c]], [], [], ⟨tx.mono e34, ty.mono e4, tz, (show 1 ≤ 100 by decide), (fun rs m => by
        rcases List.mem_singleton.mp m with rfl
        refine ⟨(show 1 ≤ 100 by decide), fun r m => ?_⟩
        rcases List.mem_singleton.mp m with rfl
        rw [List.length_replicate]
        exact l2), Nat.zero_le _, Nat.zero_le _⟩, (fun rs m => by
        rcases List.mem_singleton.mp m with rfl
        refine ⟨Nat.le_refl _, fun r m => ?_⟩
        rcases List.mem_singleton.mp m with rfl
        rw [List.length_replicate]
        exact l1), ⟨(fun rs m r m2 => by
        rcases List.mem_singleton.mp m with rfl
        rcases List.mem_singleton.mp m2 with rfl
        exact ⟨n, c, rfl⟩), fun _ m => nomatch m⟩, ⟨Nat.zero_le _, fun _ m => nomatch m⟩, by
        show ([(List.replicate n c).length] ++ []).sum + 0 + 0 ≤ 200
        rw [List.length_replicate]
        show n + 0 + 0 + 0 ≤ 200
        omega⟩
      exact fun a dx na ndx ne => si_go (CT := CT) (CM := CM) (.inr (.inr ⟨pts, q.mono (e1.trans (e2.trans e34))⟩)) a dx na ndx ne
abbrev nmAre : List Str := ["corners"]
theorem scAre : FnScope nmAre (([] : List Str) ++ [("corners" : Str)]) (defScope sAre) := ⟨rfl, rfl, rfl, by decide +kernel, rfl, by decide +kernel, by decide +kernel⟩
theorem ok_are {f : Addr} {fd : FuncData} (F : Fun K "area" "area" sAre f fd) (CF : ClR P w K mg base 11 "filled" (spFil CS CT)) : FnR P w K mg base (L2.CX P w) 13 f (spAre CS CT) := by
  obtain ⟨oc, od, kV, doc, pm, an, cdv, ct, osl, rfl, lk, hcd⟩ := F.ex
  have z := StX.fn_star (P := P) (w := w) (mg := mg) (base := base) (CX := L2.CX P w) (k := 12) (N := nmAre) (ps := []) (pv := "corners") (sp := Star fun vs H Q E => spAre CS CT vs H Q E) lk hcd scAre StX.cxUp (fun us rest h => bind_star0 (B := fun us => bindArgs (PySem.W.fnOf "area" "area" (defArgs sAre) (defBody sAre) (defScope sAre) .none kV doc pm an cdv ct) ⟨us, []⟩) rfl (fun _ _ => rfl) us rest h) (fun A' outer s H vs Q E hr h => ?_)
  · refine z.imp fun vs H Q E h => ?_
    obtain ⟨hl, h⟩ := h
    refine ⟨[], vs, rfl, rfl, sz_of (Nat.le_trans hl (by decide)), fun p hp => ⟨p, vs, rfl, upd_same, hl, ?_⟩⟩
    have e := Ex.new (o := .tup vs) hp
    rcases h with h | ⟨⟨n, c, t, l1, l2⟩, q⟩
    · exact .inl (h.mono e)
    · exact .inr ⟨⟨n, c, t.mono e, l1, l2⟩, q.mono e⟩
  · obtain ⟨p, rest, rfl, hp, hl, h⟩ := h
    refine ⟨_, (pss_one (ps_ret (pe_clR CF (goes_of (W := fun cls d _ H => E cls d H) (takes_of rfl rfl rfl rfl) fun _ _ _ _ h => h) hr (by decide) (by rfl) (pa_cons (pv 0) pa_nil)))), ?_⟩
    rcases h with ⟨us, h1, h2, h3, h4⟩ | ⟨⟨n, c, t, l1, l2⟩, q⟩
    · exact ⟨_, rfl, (show 1 ≤ 1000 by decide), .inl ⟨[.tup us], Tr1.mk hp h1, ⟨(show 1 ≤ 1000 by decide), fun u m => by
        rcases List.mem_singleton.mp m with rfl
        exact h2⟩, by
        show (decide (1 ≤ 1) && (Tr.ring (.tup us) && true)) = false
        rw [h3]
        rfl, h4⟩⟩
    · exact ⟨_, rfl, (show 1 ≤ 1000 by decide), .inr ⟨⟨.ref p, n, c, rfl, TD1.mk hp t, l1, l2⟩, fun v H' e s => q v H' e s⟩⟩
end
end Q
set_option Elab.async false
set_option linter.all false
set_option maxRecDepth 100000
set_option maxHeartbeats 4000000
/-! line -/
namespace Q
open PySem L2 PySem.Spec PyProof.Rows PySem.Calls PySem.OwnX
open Evl
theorem q_drX {te : TE} {σ : L2.St} {H : Hp} {sp : Sp} {E : XK} {v : V} {D : Ends} {tz : TS} (h : Ev te σ H v) (k : ∀ H1, Ex H H1 → sp [v] H1 (fun _ H2 => tz D σ H2) E) : tSeq (tDrop (tCall sp [] E (tCons te tNil))) tz D σ H := h H (Ex.refl _) _ fun H1 e => k H1 e
section
variable {P : Program} {w : World} {K : PySem.W.Frag} {mg : Str → Option Value} {base : Heap} {CS CT CM : Addr}
abbrev nmLin : List Str := ["corners"]
theorem scLin : FnScope nmLin (([] : List Str) ++ [("corners" : Str)]) (defScope sLin) := ⟨rfl, rfl, rfl, by decide +kernel, rfl, by decide +kernel, by decide +kernel⟩
theorem ok_lin {f : Addr} {fd : FuncData} (F : Fun K "line" "line" sLin f fd) (T : TN mg) (T2 : TN2 mg) (S : SC K mg CS) (ES : ErrE "InvalidShape" K mg CT) (CC : Cl P w K mg base 4 "are_told_corners" (spJ CS 1 Tr.cors)) (CK : ClX P w K mg base 2 "check_told_size" (spCTS CM)) (MS : MqX P w K mg base 8 CS (spSI CS CT CM)) : FnR P w K mg base (L2.CX P w) 11 f (spLin CS CT) := by
  obtain ⟨oc, od, kV, doc, pm, an, cdv, ct, osl, rfl, lk, hcd⟩ := F.ex
  have z := StX.fn_star (P := P) (w := w) (mg := mg) (base := base) (CX := L2.CX P w) (k := 10) (N := nmLin) (ps := []) (pv := "corners") (sp := Star fun vs H Q E => spLin CS CT vs H Q E) lk hcd scLin StX.cxUp (fun us rest h => bind_star0 (B := fun us => bindArgs (PySem.W.fnOf "line" "line" (defArgs sLin) (defBody sLin) (defScope sLin) .none kV doc pm an cdv ct) ⟨us, []⟩) rfl (fun _ _ => rfl) us rest h) (fun A' outer s H vs Q E hr h => ?_)
  · refine z.imp fun vs H Q E h => ?_
    obtain ⟨hl, h⟩ := h
    refine ⟨[], vs, rfl, rfl, sz_of (Nat.le_trans hl (by decide)), fun p hp => ⟨p, vs, rfl, upd_same, hl, ?_⟩⟩
    have e := Ex.new (o := .tup vs) hp
    rcases h with h | ⟨⟨c, t, pb⟩, q⟩
    · exact .inl (h.mono e)
    · exact .inr ⟨⟨c, t.mono e, pb⟩, q.mono e⟩
  · obtain ⟨p, rest, rfl, hp, hl, h⟩ := h
    refine ⟨_, (pss_cons (ps_if (pw_or (pt_not (pt_val (pe_cl CC hr (by decide) (by rfl) (pa_cons (pv 0) pa_nil)))) (pw_or1 (pt_cmpR op_lt (pe_callB call_len_seq (by rfl) T.len PySem.boot_len (pa_cons (pv 0) pa_nil)) pe_int (nomark _)))).pt (pss_one (ps_raise (W := fun cls d _ H => E cls d H) rfl (takes_of rfl rfl rfl rfl) (SkE.pmk_own1 PySem.F.excBase_ValueError ES.x ES.g ES.kC (raises_own ES.be ES.typ) (by rfl) pe_str))) pss_nil)
      (pss_cons (ps_expr (pe_clX CK (goes_of (W := fun cls d _ H => E cls d H) (takes_of rfl rfl rfl rfl) fun _ _ _ _ h => h) hr (by decide) (by rfl) (pa_cons (pe_callB call_len_seq (by rfl) T.len PySem.boot_len (pa_cons (pv 0) pa_nil)) pa_nil)))
      (pss_one (ps_ret (pe_mqX MS (goes_of (W := fun cls d _ H => E cls d H) (takes_of rfl rfl rfl rfl) fun _ _ _ _ h => h) hr (by decide) (by rfl) S.g (pa_cons (pe_tup pa_nil) (pa_cons (pe_tupZip (by rfl) (by rfl) T.tuple (by rfl) T2.zip (pa_cons (pv 0) (pa_cons (pe_slice sl_tup (pv 0) (po_some pe_int) po_none) pa_nil))) (pa_cons (pe_tup pa_nil) pa_nil)))))))), ?_⟩
    have tst : ∀ {us : List Tr}, Trs CS H rest us → Fw 1 (.tup us) → EvT (tOr (tNot (tB (tCall (spJ CS 1 Tr.cors) [] E0 (tCons (tVar 0) tNil)))) (tTest (tOp (rI0 fun i j => .bl (decide (i < j))) (tCB (rLenS K) (tCons (tVar 0) tNil)) (tC (.int 2))))) [some (.ref p)] H (!Tr.line (.tup us)) := fun {us} h1 h2 => by
      have lt2 : EvT (tTest (tOp (rI0 fun i j => .bl (decide (i < j))) (tCB (rLenS K) (tCons (tVar 0) tNil)) (tC (.int 2)))) [some (.ref p)] H (decide ((us.length : Int) < 2)) := et_test (ev_op (ev_lenTr (K := K) (ev_var (i := 0) rfl) (Tr1.mk hp h1)) ev_c rv_I0)
      have z := et_or (a := !Tr.cors (.tup us)) (b := !decide (2 ≤ us.length)) (et_not (et_B (ev_j (E := E0) (n := 1) (f := Tr.cors) (ev_var (i := 0) (σ := [some (.ref p)]) rfl) (Tr1.mk hp h1) h2))) fun _ => et_is lt2 (show decide ((us.length : Int) < 2) = !decide (2 ≤ us.length) by
        by_cases c : 2 ≤ us.length
        · rw [decide_eq_true c, decide_eq_false (by omega)]
          rfl
        · rw [decide_eq_false c, decide_eq_true (by omega)]
          rfl)
      refine et_is z ?_
      show (!Tr.cors (.tup us) || !decide (2 ≤ us.length)) = !(Tr.cors (.tup us) && decide (2 ≤ us.length))
      rw [Bool.not_and]
    rcases h with ⟨us, h1, h2, h3, h4⟩ | ⟨⟨c, t, pb⟩, q⟩
    · exact q_when (b := true) (et_is (tst h1 h2) (by rw [h3]; rfl)) (fun _ H1 e1 => h4 H1 e1) fun z => nomatch z
    · have tr : Trs CS H rest [cT c, cT c] := trs_of t (.cons (trd_c2 c) (.cons (trd_c2 c) .nil))
      have fw : Fw 1 (.tup [cT c, cT c]) := ⟨(show 2 ≤ 1000 by decide), fun _ _ => True.intro⟩
      obtain ⟨v1, r1, rfl, t1, t'⟩ := t.inv
      obtain ⟨v2, r2, rfl, t2, t'⟩ := t'.inv
      cases t'.inv0
      refine q_not (et_is (tst tr fw) rfl) fun H1 e1 => ?_
      refine q_drX (ev_lenTr (K := K) (te := tVar 0) (ev_var (i := 0) rfl) ((Tr1.mk hp tr).mono e1)) fun H2 e2 => ⟨2, rfl, .inr ⟨by decide, fun H3 e3 => ?_⟩⟩
      have e13 := e1.trans (e2.trans e3)
      have hp3 := e13 _ _ hp
      refine s_retQ (go_mk3 ((ed_tup (ds := []) da_nil (by decide)) H3 (Ex.refl _) _ fun x H4 e4 tx => ?_))
      have hp4 := e4 _ _ hp3
      refine ⟨_, rfl, _, rfl, 1, rfl, _, _, rfl, SqT.of hp4, (show ¬(HT.sIx 2 0 (some 1) = 0 ∧ HT.sIx 2 2 none = 2) by decide), fun b hb => ⟨p, b, v1, v2, v2, rfl, SqT.of (Ex.new hb _ _ hp4), SqT.of upd_same, fun p1 hp1 p2 hp2 => ?_⟩⟩
      have e5 : Ex H4 (upd (upd (upd H4 b (.tup [v2])) p1 (.tup [v1, v2])) p2 (.tup [.ref p1])) := (Ex.new (o := .tup [v2]) hb).trans ((Ex.new (o := .tup [v1, v2]) hp1).trans (Ex.new (o := .tup [.ref p1]) hp2))
      have e24 := (e2.trans e3).trans e4
      have t1' := ((t1.mono e1).mono e24).mono e5
      have t2' := ((t2.mono e1).mono e24).mono e5
      have q1 : upd (upd (upd H4 b (.tup [v2])) p1 (.tup [v1, v2])) p2 (.tup [.ref p1]) p1 = some (.tup [v1, v2]) := Ex.new hp2 _ _ upd_same
      have tp : TD1 (upd (upd (upd H4 b (.tup [v2])) p1 (.tup [v1, v2])) p2 (.tup [.ref p1])) (.ref p2) (.tuple [pieceD (c, c)]) := TD1.mk upd_same (.cons (TD1.mk q1 (.cons t1' (.cons t2' .nil))) .nil)
      have tx := tx.mono e5
      have e15 := (e13.trans e4).trans e5
      show (tTup tNil) _ (upd (upd (upd H4 b (.tup [v2])) p1 (.tup [v1, v2])) p2 (.tup [.ref p1])) _
      generalize upd (upd (upd H4 b (.tup [v2])) p1 (.tup [v1, v2])) p2 (.tup [.ref p1]) = H6 at tp tx e15 ⊢
      refine (ed_tup (ds := []) da_nil (by decide)) H6 (Ex.refl _) _ fun z H7 e7 tz => ?_
      have pts : Pts3 H7 x (.ref p2) z := ⟨[], [(c, c)], [], ⟨tx.mono e7, tp.mono e7, tz, Nat.zero_le _, (fun _ m => nomatch m), (show 1 ≤ 100 by decide), Nat.zero_le _⟩, (fun _ m => nomatch m), ⟨(fun _ m => nomatch m), fun q m => by
        rcases List.mem_singleton.mp m with rfl
        rfl⟩, pb, (show 0 + 1 + 0 ≤ 200 by decide)⟩
      exact fun a dx na ndx ne => si_go (CT := CT) (CM := CM) (.inr (.inr ⟨pts, q.mono (e15.trans e7)⟩)) a dx na ndx ne
end
end Q
set_option Elab.async false
set_option linter.all false
set_option maxRecDepth 100000
set_option maxHeartbeats 4000000
/-! ring_flaws, is_form: what is refused -/
namespace Q
open PySem L2 PySem.Spec PyProof.Rows PySem.Calls PySem.OwnX
open Evl
abbrev sRfl : Stmt := top 108
abbrev sIfo : Stmt := top 109
def spRfl (CS CT CM : Addr) : Sp := fun vs H Q E => ∃ v, vs = [v] ∧ ((∃ t, Tr1 CS H v t ∧ Fw 1 t ∧ t.cors = false ∧ Rs CT E H) ∨ (∃ r, TD1 H v (ringD r) ∧ 200 < r.length ∧ r.length ≤ 1000 ∧ Rz CM "limit" E H (.int 200)))
def Tr.noForm : Tr → Bool
  | .tup [a, b, c] => !toldT a b c
  | _ => true
def Fw3 : Tr → Prop
  | .tup [a, b, c] => Fw 3 a ∧ Fw 2 b ∧ Fw 1 c
  | _ => True
def spIfo (CS : Addr) : Sp := fun vs H Q _ => ∃ v t, vs = [v] ∧ Tr1 CS H v t ∧ Fw3 t ∧ t.noForm = true ∧ ∀ H', Ex H H' → Q (.bl false) H'
section
variable {P : Program} {w : World} {K : PySem.W.Frag} {mg : Str → Option Value} {base : Heap} {CS CT CM : Addr}
abbrev nmRfl : List Str := ["ring"]
theorem scRfl : FnScope nmRfl ["ring"] (defScope sRfl) := ⟨rfl, rfl, rfl, by decide +kernel, rfl, by decide +kernel, by decide +kernel⟩
theorem ok_rfl {f : Addr} {fd : FuncData} (F : Fun K "ring_flaws" "ring_flaws" sRfl f fd) (T : TN mg) (ES : ErrE "InvalidShape" K mg CT) (CC : Cl P w K mg base 4 "are_told_corners" (spJ CS 1 Tr.cors)) (CK : ClX P w K mg base 2 "check_told_size" (spCTS CM)) : FnOk P w K mg base (L2.CX P w) 6 f fd ["ring"] (spRfl CS CT CM) := by
  refine F.okX scRfl (fun vs H Q E h => ?_) (fun cdv A' outer s H vs Q E hr h => ?_)
  · obtain ⟨v, rfl, _⟩ := h
    rfl
  · obtain ⟨v, rfl, h⟩ := h
    refine ⟨_, (pss_cons (ps_if (pt_not (pt_val (pe_cl CC hr (by decide) (by rfl) (pa_cons (pv 0) pa_nil)))) (pss_one (ps_raise (W := fun cls d _ H => E cls d H) rfl (takes_of rfl rfl rfl rfl) (SkE.pmk_own1 PySem.F.excBase_ValueError ES.x ES.g ES.kC (raises_own ES.be ES.typ) (by rfl) pe_str))) pss_nil)
      (pss_cons (ps_expr (pe_clX CK (goes_of (W := fun cls d _ H => E cls d H) (takes_of rfl rfl rfl rfl) fun _ _ _ _ h => h) hr (by decide) (by rfl) (pa_cons (pe_callB call_len_seq (by rfl) T.len PySem.boot_len (pa_cons (pv 0) pa_nil)) pa_nil))) pss_never)), ?_⟩
    rcases h with ⟨t, h1, h2, h3, h4⟩ | ⟨r, t, l1, l2, rz⟩
    · exact q_when (b := true) (et_is (et_not (et_B (ev_j (n := 1) (f := Tr.cors) (ev_var (i := 0) rfl) h1 h2))) (by rw [h3]; rfl)) (fun _ H1 e1 => h4 H1 e1) fun z => nomatch z
    · have tr : Tr1 CS H v (ringT r) := tr1_of t (trd_ring r)
      have fw : Fw 1 (ringT r) := ⟨by
        show (r.map cT).length ≤ 1000
        rw [List.length_map]
        exact l2, fun _ _ => True.intro⟩
      refine q_not (et_is (et_not (et_B (ev_j (n := 1) (f := Tr.cors) (ev_var (i := 0) rfl) tr fw))) (by
        show (!(Tr.tup (r.map cT)).cors) = false
        rw [cors_map]
        rfl)) fun H1 e1 => ?_
      refine q_drX (ev_lenTr (K := K) (us := r.map cT) (ev_var (i := 0) rfl) (tr.mono e1)) fun H2 e2 => ⟨r.length, by rw [List.length_map], .inl ⟨l1, rz.mono (e1.trans e2)⟩⟩
abbrev nmIfo : List Str := ["value", "areas", "pieces", "points", "corners", "rings", "ring", "corner", "piece"]
theorem scIfo : FnScope nmIfo ["value"] (defScope sIfo) := ⟨rfl, rfl, rfl, by decide +kernel, rfl, by decide +kernel, by decide +kernel⟩
theorem ok_ifo {f : Addr} {fd : FuncData} (F : Fun K "is_form" "is_form" sIfo f fd) (T : TN mg) (n : NoP K CS) (c : C8.InsC K CS) (CT : Cl P w K mg base 7 "is_told_shape" (spTo CS)) : FnOk P w K mg base CX0 9 f fd ["value"] (spIfo CS) := by
  refine F.ok scIfo (fun vs H Q E h => ?_) (fun cdv A' outer s H vs Q E hr h => ?_)
  · obtain ⟨v, t, rfl, _⟩ := h
    rfl
  · obtain ⟨v, t, rfl, p, fw, nf, q⟩ := h
    refine ⟨_, (pss_cons (ps_if (pw_or (pt_not (pt_val ((pe_callB call_isi (by rfl) T.isi PyProof.Rows.boot_isinstance (pa_cons (pv 0) (pa_cons (pe_bltn (v := .ty "tuple") (by rfl) T.tuple (by decide +kernel) rfl) pa_nil)))))) (pw_or1 (pt_cmpR op_ne (pe_callB call_len_seq (by rfl) T.len PySem.boot_len (pa_cons (pv 0) pa_nil)) pe_int (nomark _)))).pt (pss_one (ps_ret pe_bl)) pss_nil)
      (pss_cons (ps_asg (pv 0) (pg_tup (by rfl) (pgs_cons (pg_name (i := 1) scIfo.nd rfl (Or.inl rfl)) (pgs_cons (pg_name (i := 2) scIfo.nd rfl (Or.inl rfl)) (pgs_cons (pg_name (i := 3) scIfo.nd rfl (Or.inl rfl)) pgs_nil)))))
      (pss_cons (ps_if (pw_or (pt_not (pt_val (pe_cl CT hr (by decide) (by rfl) (pa_cons (pv 1) (pa_cons (pv 2) (pa_cons (pv 3) pa_nil)))))) (pw_or1 (pt_cmpR op_gt pe_never pe_never (nomark _)))).pt (pss_one (ps_ret pe_bl)) pss_nil) pss_never))), ?_⟩
    by_cases tp : ∃ us, t = .tup us
    · obtain ⟨us, rfl⟩ := tp
      have fst : EvT (tOr (tNot (tB (tCB (rIsi K) (tCons (tVar 0) (tCons (tC (.ty "tuple")) tNil))))) (tTest (tOp rNe (tCB (rLenS K) (tCons (tVar 0) tNil)) (tC (.int 3))))) [some v, none, none, none, none, none, none, none, none] H (!decide (us.length = 3)) :=
        et_is (et_or (et_is (et_not (et_B (ev_isTr (.inr (.inr rfl)) n c (ev_var rfl) p))) (show (!(Tr.tup us).is "tuple") = false from rfl)) fun _ => et_test (ev_op (ev_lenTr (ev_var rfl) p) ev_c (rv_ne rfl))) (by
          have z : (V.int (us.length : Int) = V.int 3) ↔ us.length = 3 := ⟨fun h => by injection h with h; omega, fun h => by rw [h]; rfl⟩
          have z2 : decide (V.int (us.length : Int) = V.int 3) = decide (us.length = 3) := decide_eq_decide.mpr z
          rw [z2]
          rfl)
      by_cases l3 : us.length = 3
      · rw [decide_eq_true l3] at fst
        obtain ⟨t1, t2, t3, rfl⟩ : ∃ t1 t2 t3, us = [t1, t2, t3] := by
          match us, l3 with
          | [x, y, z], _ => exact ⟨x, y, z, rfl⟩
        obtain ⟨f1, f2, f3⟩ := fw
        have nf : (!toldT t1 t2 t3) = true := nf
        refine q_not fst fun H1 e1 => q_unpT3 (ev_var rfl) (p.mono e1) fun v1 v2 v3 H2 e2 x1 x2 x3 => ?_
        have e12 := e1.trans e2
        have it : EvT (tNot (tB (tCall (spTo CS) [] E0 (tCons (tVar 1) (tCons (tVar 2) (tCons (tVar 3) tNil)))))) [some v, some v1, some v2, some v3, none, none, none, none, none] H2 (!toldT t1 t2 t3) := et_not (et_B (ev_call (ea_cons (ev_var (i := 1) rfl) (ea_cons (ev_var (i := 2) rfl) (ea_cons (ev_var (i := 3) rfl) ea_nil))) fun H1 e1 Q q' E => ⟨v1, v2, v3, t1, t2, t3, rfl, x1.mono e1, x2.mono e1, x3.mono e1, f1, f2, f3, fun H2 e2 => q' H2 e2⟩))
        exact q_yes (et_is (et_or (b := true) (et_is it nf) fun z => nomatch z) rfl) fun H3 e3 => s_ret ev_c fun H4 e4 => q H4 ((e12.trans e3).trans e4)
      · rw [decide_eq_false l3] at fst
        exact q_yes fst fun H1 e1 => s_ret ev_c fun H2 e2 => q H2 (e1.trans e2)
    · have o : (!t.is "tuple") = true := by cases t <;> first | rfl | exact absurd ⟨_, rfl⟩ tp
      exact q_yes (et_is (et_or (b := true) (et_is (et_not (et_B (ev_isTr (.inr (.inr rfl)) n c (ev_var rfl) p))) o) fun z => nomatch z) rfl) fun H1 e1 => s_ret ev_c fun H2 e2 => q H2 (e1.trans e2)
end
end Q
set_option Elab.async false
set_option linter.all false
set_option maxRecDepth 100000
set_option maxHeartbeats 4000000
/-! how a call is met; what stays -/
namespace Q
open PySem L2 PySem.Spec PyProof.Rows PySem.Calls PySem.OwnX LamX LamY
open Evl
abbrev sSd : Stmt := top 114
/-- the three classes of errors that are met -/
structure Fv where
  t : Addr
  p : Addr
  m : Addr
inductive MetE (A : Fv) (Q : VK) (H : Hp) : Value → Option Addr → Prop where
  | t {d : Option Addr} (q : Q (.str "shape") H) : MetE A Q H (.ref A.t) d
  | p {d : Option Addr} (q : Q (.str "point") H) : MetE A Q H (.ref A.p) d
  | m {d : Addr} (h : H d = some (.xd [("limit", .int 200)])) (q : Q (.str "many 200") H) : MetE A Q H (.ref A.m) (some d)
def metE (A : Fv) (Q : VK) : XK := fun cls d H => MetE A Q H cls d
def TMet (A : Fv) : (XK → Hp → VK → Prop) → Hp → VK → Prop := fun tl H Q => tl (metE A Q) H (fun _ H' => Q (.str "fine") H')
structure Exm (K : PySem.W.Frag) (A : Fv) : Prop where
  tt : PySem.W.exmOne K (.ref A.t) (.ref A.t) = some true
  pt : PySem.W.exmOne K (.ref A.p) (.ref A.t) = some false
  pp : PySem.W.exmOne K (.ref A.p) (.ref A.p) = some true
  mp : PySem.W.exmOne K (.ref A.m) (.ref A.p) = some false
  mt : PySem.W.exmOne K (.ref A.m) (.ref A.t) = some false
  mm : PySem.W.exmOne K (.ref A.m) (.ref A.m) = some true
theorem w_no {ex : Value → Bool → Prop} {ts : Addr → Value → Option Addr → TS} {D : Ends} {Wr : WX} {cls : Value} {d : Option Addr} {σ : L2.St} {H : Hp} (h : ex cls false) (r : Wr cls d σ H) : wTest ex ts D Wr cls d σ H := ⟨false, h, (fun q => nomatch q), fun _ => r⟩
theorem w_yes {ex : Value → Bool → Prop} {ts : Addr → Value → Option Addr → TS} {D : Ends} {Wr : WX} {cls : Value} {d : Option Addr} {σ : L2.St} {H : Hp} (h : ex cls true) (r : ∀ a, H a = none → ts a cls d D σ H) : wTest ex ts D Wr cls d σ H := ⟨true, h, (fun _ => r), fun q => nomatch q⟩
theorem wa_yes {ex : Value → Bool → Prop} {i : Nat} {ts : Addr → Value → Option Addr → TS} {D : Ends} {Wr : WX} {cls : Value} {d : Option Addr} {σ : L2.St} {H : Hp} (h : ex cls true) (r : ∀ a, H a = none → ts a cls d (endsAs i D) (σ.set i (some (.ref a))) H) : wTestAs ex i ts D Wr cls d σ H := ⟨true, h, (fun _ => r), fun q => nomatch q⟩
abbrev nmSd : List Str := ["ask", "e"]
theorem scSd : FnScope nmSd ["ask"] (defScope sSd) := ⟨rfl, rfl, rfl, by decide +kernel, rfl, by decide +kernel, by decide +kernel⟩
def rRepI : List V → Hp → VK → Prop := fun xs H Q => ∃ i, xs = [.int i] ∧ i.natAbs.log2 < 1920 ∧ Q (.str (toString i)) H
/-- the reading of 'word ' + repr(error.f) -/
def tTold (w : Str) (C : Addr) (f : Str) (a : Addr) (cls : Value) (d : Option Addr) : TS := tRet (tOp (fun x y H Q => ∃ i j, x = .str i ∧ y = .str j ∧ i.length + j.length ≤ sizeLine ∧ Q (.str (i ++ j)) H) (tC (.str w)) (tCB rRepI (tCons (tByE C f a cls d (tVar 1)) tNil)))
theorem takes_noneL {X : Cx} : Takes X (fun _ _ _ _ => False) := LamX.takes0
section
variable {X : Cx} {A : Fv}
theorem takes_len {Y : Cx} {W : WX} (tk : Takes Y W) : Takes Y (fun cls d σ H => σ.length = Y.N.length → W cls d σ H) := fun u s' x => by
  obtain ⟨a, B, sI, pins, σ, H, cls, d, e, J, nb, up, sky, na, os, ag, w⟩ := x
  exact tk u s' ⟨a, B, sI, pins, σ, H, cls, d, e, J, nb, up, sky, na, os, ag, w J.len⟩
theorem said_gives {q : Str} {g : Addr} {cdg : Value} (T : TN X.mg) (ET : ErrE "InvalidShape" X.K X.mg A.t) (EP : ErrE "InvalidPoint" X.K X.mg A.p) (M : NumE "TooMany" "limit" X.prog X.w X.K X.mg A.m) (EX : Exm X.K A) :
    GivesTo X nmSd "_law_said" (defScope sSd) g cdg (defBody sSd) "ask" q (TMet A) := by
  obtain ⟨fM, nM, BM, lM, tM, _⟩ := M.t
  intro f c' s H Q tl act hc h
  refine ⟨_, pss_cons (ps_try_any (X := (cxOf C8.CX0 X.prog X.w X.K X.mg X.base nmSd "_law_said" (defScope sSd) g cdg X.A X.stack s H C8.E0).nox) (Wout := fun _ _ _ _ => False)
      (tb := fun W D σ H' => (∀ cls d σ' H2, MetE A Q H2 cls d → σ'.length = 2 → W cls d σ' H2) ∧ σ[0]? = some (some (.ref f)) ∧ H' c' = some (CodeO c' q) ∧ tl (metE A Q) H' (fun _ H2 => D.nx σ H2)) rfl rfl takes_noneL
      (fun W pn xe tk _ => ?hb)
      (.cons (hd_only (ts := fun _ _ _ => tRet (tC (.str "shape"))) rfl (test_one (c := .ref A.t) ⟨rfl, by decide, .inl ET.g⟩) (fun a oe cls d pn hz hv => pss_one (ps_ret pe_str)))
      (.cons (hd_only (ts := fun _ _ _ => tRet (tC (.str "point"))) rfl (test_one (c := .ref A.p) ⟨rfl, by decide, .inl EP.g⟩) (fun a oe cls d pn hz hv => pss_one (ps_ret pe_str)))
      (.cons (hd_as (i := 1) (ts := fun a cls d => tTold "many " A.m "limit" a cls d) rfl scSd.nd rfl rfl (test_one (c := .ref A.m) ⟨rfl, by decide, .inl M.g⟩) (fun a oe cls d pn hz hv => pss_one (ps_ret (pe_op op_add_str pe_str (pe_callB SkE.call_repr_int (by rfl) T.repr (by decide +kernel) (pa_cons (by exact (pe_byE tM M.fr hz hv (pv 1))) pa_nil))))))
      .nil))))
      (pss_one (ps_ret pe_str)), ?_⟩
  case hb =>
    refine ⟨fun pins s' σ H' D I h' => ?_⟩
    obtain ⟨hW, h1, h2, h3⟩ := h'
    have hp := fun p1 p2 => act _ pn xe (metE A Q) p1 p2 (takes_len tk) (fun cls d σ' H2 m l => hW cls d σ' H2 m l)
    exact (pss_one (ps_expr (hp _ _))).run pins s' σ H' D I ⟨h1, h2, h3⟩
  refine ⟨fun cls d σ' H2 m l => ?_, rfl, hc, h⟩
  have at1 : ∀ a : Addr, (σ'.set 1 (some (V.ref a)))[1]? = some (some (.ref a)) := fun a => by
    rw [List.getElem?_set_self (by omega)]
  cases m with
  | t qq => exact w_yes EX.tt fun a _ => qq
  | p qq => exact w_no EX.pt (w_yes EX.pp fun a _ => qq)
  | m hd qq =>
    refine w_no EX.mt (w_no EX.mp (wa_yes EX.mm fun a _ => ?_))
    refine ⟨_, at1 a, rfl, rfl, _, _, _, rfl, hd, by simp [List.lookup], 200, rfl, by decide, _, _, rfl, rfl, by decide +kernel, ?_⟩
    have e : (("many " : Str) ++ (toString (200 : Int) : Str)) = "many 200" := by decide +kernel
    show Q (.str (("many " : Str) ++ (toString (200 : Int) : Str))) _
    rw [e]
    exact qq
end
structure MF (P : Program) (w : World) (K : PySem.W.Frag) (mg : Str → Option Value) (A : Fv) : Prop where
  T : TN mg
  ET : ErrE "InvalidShape" K mg A.t
  EP : ErrE "InvalidPoint" K mg A.p
  M : NumE "TooMany" "limit" P w K mg A.m
  EX : Exm K A
  met : ∃ (g : Addr) (oc : Value) (od : Option Addr) (kV doc pm : Value) (an : Option Addr) (cdv ct : Value) (osl : Array (Option Value)), mg "_law_said" = some (.ref g) ∧ PySem.W.keepIn K (.ref g) = true ∧
    K.lookup g = some ⟨oc, od, .func (PySem.W.fnOf "_law_said" "_law_said" (defArgs sSd) (defBody sSd) (defScope sSd) .none kV doc pm an cdv ct), osl⟩ ∧ PySem.W.codeIn K cdv "_law_said" = true ∧ L2.Binds K (PySem.W.fnOf "_law_said" "_law_said" (defArgs sSd) (defBody sSd) (defScope sSd) .none kV doc pm an cdv ct) ["ask"] []
/-- the def's code object at c and its table at P -/
structure LamT (X : Cx) (T : List (Addr × Str)) (c P : Addr) : Prop where
  tb : TabB X.base X.mg c P
  code : X.env.code = .ref c
  mem : (P, X.env.qual ++ "<lambda>") ∈ T
  uni : ∀ p ∈ T, p.1 = P → p.2 = X.env.qual ++ "<lambda>"
section
variable {X : Cx} {A : Fv} {T : List (Addr × Str)} {c P : Addr} {k : Nat} {params : Arguments} {body : Expr} {scope : Scope} {t : XK → TE} {p lpos pos : Pos}
/-- _law_said(lambda: body) -/
theorem pe_met (F : MF X.prog X.w X.K X.mg A) (hg : Gl X "_law_said") (LT : LamT X T c P) (hr : Room (k + 2) X.A) (L : LamS X.env.scope scope) (hdef : defaultsOf params X.env = ([], []))
    (hbind : ∀ (q : Str) (cl : List (Str × Addr)) (pm cv ctv : Value), bindArgs (PySem.W.kla_fn "<lambda>" q params body scope cl pm cv ctv) ⟨[], []⟩ = pure [])
    (hbody : ∀ (B : Around) (outer : List Env) (s : Shared) (H : Hp) (E : XK) (f c' : Addr), Room k (B.deeper (lamEnv X scope s.heap.objs.size f c')) → PE (lamCx X B outer s H E scope f c') body (t E)) :
    PE X (.Call (.Name "_law_said" p) [.Lambda params body scope lpos] [] pos) (tLam T (TMet A) t) := by
  obtain ⟨g, oc, od, kV, doc, pm, an, cdv, ct, osl, m1, m2, m3, m4, m5⟩ := F.met
  exact pe_lamcall hg m1 m2 m3 m4 m5 scSd rfl (.inl rfl) (said_gives F.T F.ET F.EP F.M F.EX) LT.tb LT.code LT.mem LT.uni hr L hdef hbind hbody
end
/-! what stays while the bag is drawn from, and while code is made -/
def BagIn (p : Addr) (H : Hp) : Prop := ∃ a b c : Int, H p = some (.lst [.int a, .int b, .int c])
theorem BagIn.mono {p : Addr} {H H' : Hp} (e : Ex H H') (h : BagIn p H) : BagIn p H' := (bag_ex e h).bag
theorem BagIn.ne {p l : Addr} {H : Hp} (h : BagIn p H) (n : H l = none) : l ≠ p := fun z => by
  obtain ⟨a, b, c, e⟩ := h
  rw [z, e] at n
  cases n
/-- without the tables and the bag at p -/
def cutB (p : Addr) (H : Hp) : Hp := fun l => if l = p then none else match H l with
  | some (.tbl _) => none
  | o => o
theorem cutB_of {p : Addr} {H : Hp} {l : Addr} {o : HO} (h : H l = some o) (n : ∀ ps, o ≠ .tbl ps) (np : l ≠ p) : cutB p H l = some o := by
  unfold cutB
  rw [if_neg np, h]
  cases o <;> first | rfl | exact absurd rfl (n _)
theorem of_cutB {p : Addr} {H : Hp} {l : Addr} {o : HO} (h : cutB p H l = some o) : H l = some o ∧ (∀ ps, o ≠ .tbl ps) ∧ l ≠ p := by
  unfold cutB at h
  by_cases c : l = p
  · rw [if_pos c] at h
    cases h
  · rw [if_neg c] at h
    split at h
    · cases h
    · rename_i n
      exact ⟨h, fun ps z => by
        rw [z] at h
        exact n ps h, c⟩
theorem cut_ext {p : Addr} {H H1 : Hp} (e : ExtN H H1) : Ex (cutB p H) H1 := fun l o h => e l o (of_cutB h).1 (of_cutB h).2.1
theorem cut_ex {p : Addr} {H H1 : Hp} (e : Ex H H1) : Ex (cutB p H) H1 := fun l o h => e l o (of_cutB h).1
theorem cut_bgd {p : Addr} {H H1 : Hp} (g : Bgd p H H1) : Ex (cutB p H) H1 := fun l o h => g.keep l o (of_cutB h).2.2 (of_cutB h).1
theorem cut_self {p : Addr} {H : Hp} : Ex (cutB p H) H := fun l o h => (of_cutB h).1
theorem cut_cut {p : Addr} {S H : Hp} (e : Ex (cutB p S) H) : Ex (cutB p S) (cutB p H) := fun l o h => cutB_of (e l o h) (of_cutB h).2.1 (of_cutB h).2.2
theorem ext_ex {H H1 H2 : Hp} (a : ExtN H H1) (b : Ex H1 H2) : ExtN H H2 := fun l o h n => b l o (a l o h n)
theorem ex_extN {H H1 : Hp} (a : Ex H H1) : ExtN H H1 := fun l o h _ => a l o h
/-- what speaks of tuples and of things only -/
theorem bag_ne {p l : Addr} {H : Hp} {o : HO} (hb : BagIn p H) (h : H l = some o) (n : ∀ xs, o ≠ .lst xs) : l ≠ p := fun z => by
  obtain ⟨a, b, c, e⟩ := hb
  rw [z, e] at h
  cases h
  exact n _ rfl
theorem TD1.cut {p : Addr} {H : Hp} {v : V} {d : PyData} (hb : BagIn p H) (h : TD1 H v d) : TD1 (cutB p H) v d := h.by fun a ys q => cutB_of q (fun _ z => nomatch z) (bag_ne hb q fun _ z => nomatch z)
theorem Sh.cut {p C a : Addr} {H : Hp} {P : List (Int × Int)} (hb : BagIn p H) (h : Sh C H a P) : Sh C (cutB p H) a P := by
  obtain ⟨dx, f, s, m, h1, h2⟩ := h
  exact ⟨dx, f, s, m, cutB_of h1 (fun _ z => nomatch z) (bag_ne hb h1 fun _ z => nomatch z), TD1.cut hb h2.f, TD1.cut hb h2.s, TD1.cut hb h2.m⟩
theorem Pv.cut {p : Addr} {H : Hp} {v : V} {k : Kd} (hb : BagIn p H) (nv : v ≠ .ref p) (h : Pv H v k) : Pv (cutB p H) v k := by
  cases h with
  | non => exact .non
  | bl b => exact .bl b
  | int i => exact .int i
  | str z => exact .str z
  | lst h => exact .lst (cutB_of h (fun _ z => nomatch z) fun z => nv (by rw [z]))
  | tup h => exact .tup (cutB_of h (fun _ z => nomatch z) (bag_ne hb h fun _ z => nomatch z))
  | dct h => exact .dct (cutB_of h (fun _ z => nomatch z) (bag_ne hb h fun _ z => nomatch z))
theorem tabs_bgd {T : List (Addr × Str)} {H H' : Hp} {p : Addr} (hb : BagIn p H) (g : Bgd p H H') (t : Tabs T H) : Tabs T H' := fun y hy => by
  obtain ⟨ps, h1, h2, h3⟩ := t y hy
  have ne : ∀ {l : Addr} {o : HO}, H l = some o → (∀ zs, o ≠ .lst zs) → l ≠ p := fun {l o} e n => bag_ne hb e n
  refine ⟨ps, g.keep _ _ (ne h1 fun _ z => nomatch z) h1, h2, fun pos cv hc => ?_⟩
  obtain ⟨c', e1, e2⟩ := h3 pos cv hc
  exact ⟨c', e1, g.keep _ _ (ne e2 fun zs z => by unfold CodeO at z; cases z) e2⟩
/-! values of menus, told without the bag -/
theorem cutB_ex {p : Addr} {H H' : Hp} (e : Ex H H') : Ex (cutB p H) (cutB p H') := fun l o h => by
  obtain ⟨h1, h2, h3⟩ := of_cutB h
  exact cutB_of (e l o h1) h2 h3
theorem Bgd.cut {p : Addr} {S H H' : Hp} (e : Ex (cutB p S) H) (g : Bgd p H H') : Ex (cutB p S) H' := fun l o h => g.keep l o (of_cutB h).2.2 (e l o h)
theorem cutB_idem {p : Addr} {H : Hp} : Ex (cutB p (cutB p H)) (cutB p H) := fun l o h => (of_cutB h).1
def EvP (p : Addr) (P : Hp → V → Prop) (te : TE) (σ : L2.St) : Prop := ∀ H, BagIn p H → ∀ Q : VK, (∀ v H2, Ex H H2 → P (cutB p H2) v → Q v H2) → te σ H Q
def EvPs (p : Addr) (P : Hp → V → Prop) (ta : TA) (σ : L2.St) (n : Nat) : Prop := ∀ H, BagIn p H → ∀ Q : List V → Hp → Prop, (∀ vs H2, Ex H H2 → vs.length = n → (∀ v ∈ vs, P (cutB p H2) v) → Q vs H2) → ta σ H Q
/-- it stays -/
def Sty (P : Hp → V → Prop) : Prop := ∀ H H' v, Ex H H' → P H v → P H' v
section
variable {p : Addr} {P : Hp → V → Prop} {σ : L2.St} {te : TE} {ta : TA} {n : Nat} {v : V} {ds : List PyData}
theorem eps_nil : EvPs p P tNil σ 0 := fun H _ Q q => q [] H (Ex.refl _) rfl fun v hv => nomatch hv
theorem eps_cons (s : Sty P) (h : EvP p P te σ) (t : EvPs p P ta σ n) : EvPs p P (tCons te ta) σ (n + 1) := fun H hb Q q =>
  h H hb _ fun v H2 e2 pv => t H2 (hb.mono e2) _ fun vs H3 e3 l a => q (v :: vs) H3 (e2.trans e3) (by rw [List.length_cons, l]) fun w hw => by
    rcases List.mem_cons.mp hw with rfl | hw
    · exact s _ _ _ (cutB_ex e3) pv
    · exact a w hw
theorem ep_c (hp : ∀ H, P H v) : EvP p P (tC v) σ := fun H _ Q q => q v H (Ex.refl _) (hp _)
theorem ep_tup (h : ∀ H, EvD te σ H (.tuple ds)) (hp : ∀ H v, TD1 H v (.tuple ds) → P H v) : EvP p P te σ := fun H hb Q q => h H H (Ex.refl _) _ fun v H2 e2 x => q v H2 e2 (hp _ v (TD1.cut (hb.mono e2) x))
theorem ep_lst (h : ∀ H, BagIn p H → ∀ Q : List V → Hp → Prop, (∀ vs H2, Ex H H2 → vs.length ≤ 10 → Q vs H2) → ta σ H Q) (hp : ∀ H a xs, H a = some (.lst xs) → P H (.ref a)) : EvP p P (tLst ta) σ := fun H hb Q q => h H hb _ fun vs H2 e2 l => ⟨Nat.le_trans l (by decide), fun a ha => q _ _ (e2.trans (Ex.new ha)) (hp _ a vs (cutB_of upd_same (fun _ z => nomatch z) ((hb.mono e2).ne ha)))⟩
theorem ep_d0 (hp : ∀ H a o, H a = some (.frz o (.dK [])) → P H (.ref a)) : EvP p P (tFast tDNewK) σ := fun H hb Q q a ha => ⟨a, _, rfl, upd_same, True.intro, fun o => q _ _ (Ex.mut (Ex.new ha) ha) (hp _ a o (cutB_of upd_same (fun _ z => nomatch z) (hb.ne ha)))⟩
/-- a list of them -/
theorem go_menu {H : Hp} {Q : VK} (h : EvPs p P ta σ n) (h1 : n ≤ 20) (hb : BagIn p H) (q : ∀ L vs H', Ex H H' → H' L = some (.lst vs) → L ≠ p → vs.length = n → (∀ v ∈ vs, P (cutB p H') v) → Q (.ref L) H') (s : Sty P) : tLst ta σ H Q := h H hb _ fun vs H2 e2 l a => ⟨Nat.le_trans (show vs.length ≤ 20 by omega) (by decide), fun L hL => by
  have e3 := Ex.new (o := .lst vs) hL
  exact q L vs _ (e2.trans e3) upd_same ((hb.mono e2).ne hL) l fun v m => s _ _ _ (cutB_ex e3) (a v m)⟩
/-- one of a list of them, by the bag -/
theorem go_oneL {H : Hp} {Q : VK} {i : Nat} {E : XK} {L : Addr} {vs : List V} (si : σ[i]? = some (some (.ref p))) (hl : Ev te σ H (.ref L)) (hL : H L = some (.lst vs)) (nL : L ≠ p) (h0 : 0 < n) (h1 : n ≤ 20) (ln : vs.length = n) (a : ∀ v ∈ vs, P (cutB p H) v) (s : Sty P) (hb : BagIn p H) (q : ∀ v S H', Bgd p S H' → Ex H S → P (cutB p S) v → Q v H') : tCall spOne [] E (tCons (tVar i) (tCons te tNil)) σ H Q := by
  refine ⟨_, si, hl H (Ex.refl _) _ fun H2 e2 => ?_⟩
  have hb2 := hb.mono e2
  obtain ⟨x, y, w, e⟩ := id hb2
  exact ⟨p, L, x, y, w, vs, rfl, e, nL, e2 _ _ hL, by omega, by omega, fun j v H' hv g => q v H2 H' g e2 (s _ _ _ (cutB_ex e2) (a v (List.mem_of_getElem? hv)))⟩
theorem go_oneN {H : Hp} {Q : VK} {i : Nat} {E : XK} (si : σ[i]? = some (some (.ref p))) (h : EvPs p P ta σ n) (h0 : 0 < n) (h1 : n ≤ 20) (s : Sty P) (hb : BagIn p H) (q : ∀ v S H', Bgd p S H' → Ex H S → P (cutB p S) v → Q v H') : tCall spOne [] E (tCons (tVar i) (tCons (tLst ta) tNil)) σ H Q := by
  refine ⟨_, si, go_menu h h1 hb (fun L vs H2 e2 hL nL l a => ?_) s⟩
  have hb2 := hb.mono e2
  obtain ⟨x, y, w, e⟩ := id hb2
  exact ⟨p, L, x, y, w, vs, rfl, e, nL, hL, by omega, by omega, fun j v H' hv g => q v H2 H' g e2 (a v (List.mem_of_getElem? hv))⟩
end
end Q
set_option Elab.async false
set_option linter.all false
set_option maxRecDepth 100000
set_option maxHeartbeats 8000000
/-! words of what is refused -/
namespace Q
open PySem L2 PySem.Spec PyProof.Rows PySem.Calls PySem.OwnX LamX LamY
open Evl
/-- a def that is called where nothing is being shown -/
structure ClG (P : Program) (w : World) (K : PySem.W.Frag) (mg : Str → Option Value) (base : Heap) (k : Nat) (x : Str) (sp : Sp) : Prop where
  ex : ∃ (f : Addr) (fd : FuncData) (ps : List Str), FnG P w K mg base CX0 k f fd ps sp ∧ mg x = some (.ref f) ∧ PySem.W.keepIn K (.ref f) = true ∧ Binds K fd ps []
section
variable {X : Cx} {k j : Nat} {x : Str} {sp : Sp} {p pos : Pos} {e : Expr} {es : List Expr} {t : TA}
theorem pe_clG (c : ClG X.prog X.w X.K X.mg X.base k x sp) (gd : X.A.guards = some []) (hr : Room j X.A) (hk : k ≤ j) (hg : Gl X x) (ha : PA X (e :: es) t)
    (hdb : (x == ("__debug__" : Str)) = false := by decide) (he : starEach (e :: es) X.env = (false, eval e X.env) :: starEach es X.env := by rfl) (hpl : (backTo pos (starEach es X.env)).any (·.1) = false := by rfl) :
    PE X (.Call (.Name x p) (e :: es) [] pos) (tCall sp [] E0 t) := by
  obtain ⟨f, fd, ps, F, hm, kp, b⟩ := c.ex
  exact pe_callG F gd (hr.mono hk) hg hm kp b pass0 ha hdb he hpl
end
/-! ### lambdas that are met -/
section
variable {K : PySem.W.Frag} {A : Fv} {T : List (Addr × Str)} {σ : L2.St} {H S : Hp} {t : XK → TE} {te : TE} {x : Str} {D : Ends} {tz : TS} {l : Addr} {xs : List V} {i : Nat}
theorem go_lam {Q : VK} (tabs : Tabs T H) (hm : ∀ H1, ExtN H H1 → ∀ Q1 : VK, (∀ H2, Ex H1 H2 → Q1 (.str x) H2) → t (metE A Q1) σ H1 fun _ H2 => Q1 (.str "fine") H2) (k : ∀ H1, ExtN H H1 → Tabs T H1 → Q (.str x) H1) : tLam T (TMet A) t σ H Q :=
  ⟨tabs, fun H1 e1 t1 => hm H1 e1 _ fun H2 e2 => k H2 (ext_ex e1 e2) (t1.ext e2)⟩
theorem go_lst1 {te : TE} {Q : VK} (h : te σ H fun v H1 => 1 ≤ sizeLine ∧ ∀ p, H1 p = none → Q (.ref p) (upd H1 p (.lst [v]))) : tLst (tCons te tNil) σ H Q := h
theorem tabs_upd {H : Hp} {F : Addr} {xs ys : List V} (t : Tabs T H) (h : H F = some (.lst xs)) : Tabs T (upd H F (.lst ys)) := fun p hp => by
  obtain ⟨ps, h1, h2, h3⟩ := t p hp
  have nF : ∀ {l : Addr} {o : HO}, H l = some o → (∀ zs, o ≠ .lst zs) → l ≠ F := fun {l o} e n z => by
    rw [z, h] at e
    cases e
    exact n _ rfl
  refine ⟨ps, by rw [upd_ne (nF h1 fun _ z => nomatch z)]; exact h1, h2, fun pos cv hc => ?_⟩
  obtain ⟨c, e1, e2⟩ := h3 pos cv hc
  exact ⟨c, e1, by rw [upd_ne (nF e2 fun zs z => by unfold CodeO at z; cases z)]; exact e2⟩
/-- no tables stand in it -/
def NT (S : Hp) : Prop := ∀ l o, S l = some o → ∀ ps, o ≠ .tbl ps
theorem nt_cut {p : Addr} {H : Hp} : NT (cutB p H) := fun _ _ h => (of_cutB h).2.1
theorem NT.ext {S H H1 : Hp} (nt : NT S) (e : Ex S H) (x : ExtN H H1) : Ex S H1 := fun a o h => x a o (e a o h) (nt a o h)
/-- without the tables -/
def cutT (H : Hp) : Hp := fun l => match H l with
  | some (.tbl _) => none
  | o => o
theorem cutT_of {H : Hp} {l : Addr} {o : HO} (h : H l = some o) (n : ∀ ps, o ≠ .tbl ps) : cutT H l = some o := by
  unfold cutT
  rw [h]
  cases o <;> first | rfl | exact absurd rfl (n _)
theorem of_cutT {H : Hp} {l : Addr} {o : HO} (h : cutT H l = some o) : H l = some o ∧ ∀ ps, o ≠ .tbl ps := by
  unfold cutT at h
  split at h
  · cases h
  · rename_i n
    exact ⟨h, fun ps z => by
      rw [z] at h
      exact n ps h⟩
theorem nt_cutT {H : Hp} : NT (cutT H) := fun _ _ h => (of_cutT h).2
theorem cutT_ex {H : Hp} : Ex (cutT H) H := fun _ _ h => (of_cutT h).1
theorem extN_of {H H1 : Hp} (e : Ex (cutT H) H1) : ExtN H H1 := fun l o h n => e l o (cutT_of h n)
/-- the words so far -/
structure Ws (S : Hp) (T : List (Addr × Str)) (l : Addr) (xs : List Str) (H : Hp) : Prop where
  new : S l = none
  ex : Ex S H
  tabs : Tabs T H
  at_ : H l = some (.lst (xs.map V.str))
/-- found = [_law_said(..)] -/
theorem q_said1 (nt : NT S) (ex : Ex S H) (tabs : Tabs T H) (hm : ∀ H1, Ex S H1 → ∀ Q1 : VK, (∀ H2, Ex H1 H2 → Q1 (.str x) H2) → t (metE A Q1) σ H1 fun _ H2 => Q1 (.str "fine") H2)
    (k : ∀ l H1, Ws S T l [x] H1 → tz D (σ.set i (some (.ref l))) H1) : tSeq (tAsg (tLst (tCons (tLam T (TMet A) t) tNil)) (gName i)) tz D σ H := by
  refine q_asgQ (go_lst1 (go_lam tabs (fun H1 e1 => hm H1 (nt.ext ex e1)) fun H1 e1 t1 => ⟨by decide, fun l hl => ?_⟩))
  have el := Ex.new (o := .lst [.str x]) hl
  have eS := nt.ext ex e1
  refine k l _ ⟨?_, eS.trans el, t1.ext el, upd_same⟩
  cases z : S l with
  | none => rfl
  | some o =>
    have y := eS _ _ z
    rw [hl] at y
    cases y
/-- found.append(_law_said(..)) -/
theorem q_saidN {ys : List Str} (nt : NT S) (w : Ws S T l ys H) (si : σ[i]? = some (some (.ref l))) (hn : ys.length < 40) (hm : ∀ H1, Ex S H1 → ∀ Q1 : VK, (∀ H2, Ex H1 H2 → Q1 (.str x) H2) → t (metE A Q1) σ H1 fun _ H2 => Q1 (.str "fine") H2)
    (k : ∀ H1, Ws S T l (ys ++ [x]) H1 → tz D σ H1) : tSeq (tDrop (tBM K "list" rAppend (tVar i) (tCons (tLam T (TMet A) t) tNil))) tz D σ H := by
  obtain ⟨nl, ex, tabs, hl⟩ := w
  refine ⟨_, si, .inl ⟨rfl, _, SqL.of hl⟩, go_lam tabs (fun H1 e1 => hm H1 (nt.ext ex e1)) fun H1 e1 t1 => ?_⟩
  have hl1 := e1 _ _ hl fun _ z => nomatch z
  refine ⟨l, _, .str x, rfl, rfl, hl1, Nat.lt_of_lt_of_le (show (ys.map V.str).length < 40 by rw [List.length_map]; exact hn) (by decide), k _ ⟨nl, fun a o h => ?_, tabs_upd t1 hl1, by rw [upd_same, List.map_append]; rfl⟩⟩
  rw [upd_ne (fun z => by rw [z, nl] at h; cases h)]
  exact nt.ext ex e1 _ _ h
end
/-! values as trees -/
def EvTr (CS : Addr) (te : TE) (σ : L2.St) (H : Hp) (t : Tr) : Prop := ∀ H1, Ex H H1 → ∀ Q : VK, (∀ v H2, Ex H1 H2 → Tr1 CS H2 v t → Q v H2) → te σ H1 Q
def EvTs (CS : Addr) (ta : TA) (σ : L2.St) (H : Hp) (ts : List Tr) : Prop := ∀ H1, Ex H H1 → ∀ Q : List V → Hp → Prop, (∀ vs H2, Ex H1 H2 → Trs CS H2 vs ts → Q vs H2) → ta σ H1 Q
section
variable {CS : Addr} {A : Fv} {σ : L2.St} {H : Hp} {te t1 t2 t3 : TE} {ta : TA} {t a b c : Tr} {ts : List Tr} {v : V} {i : Nat} {Q1 R : VK}
theorem ts_nil : EvTs CS tNil σ H [] := fun H1 e Q q => q [] H1 (Ex.refl _) .nil
theorem ts_cons (h : EvTr CS te σ H t) (k : EvTs CS ta σ H ts) : EvTs CS (tCons te ta) σ H (t :: ts) := fun H1 e Q q => h H1 e _ fun v H2 e2 x => k H2 (e.trans e2) _ fun vs H3 e3 y => q (v :: vs) H3 (e2.trans e3) (Trs.cons (x.mono e3) y)
theorem tr_tup (h : EvTs CS ta σ H ts) (hz : ts.length ≤ 1000) : EvTr CS (tTup ta) σ H (.tup ts) := fun H1 e Q q => h H1 e _ fun vs H2 e2 x => ⟨Nat.le_trans (show vs.length ≤ 1000 by rw [x.len]; exact hz) (by decide), fun p hp => q _ _ (e2.trans (Ex.new hp)) (Tr1.mk upd_same (x.mono (Ex.new hp)))⟩
theorem tr_int {n : Int} : EvTr CS (tC (.int n)) σ H (.int n) := fun H1 e Q q => q _ H1 (Ex.refl _) (Trs.int n .nil)
theorem tr_non : EvTr CS (tC .non) σ H .non := fun H1 e Q q => q _ H1 (Ex.refl _) (Trs.non .nil)
theorem tr_var (hi : σ[i]? = some (some v)) (x : Tr1 CS H v t) : EvTr CS (tVar i) σ H t := fun H1 e Q q => ⟨v, hi, q v H1 (Ex.refl _) (x.mono e)⟩
theorem tr_pt {x y : Int} : EvTr CS (tTup (tCons (tC (.int x)) (tCons (tC (.int y)) tNil))) σ H (cT (x, y)) := tr_tup (ts_cons tr_int (ts_cons tr_int ts_nil)) (show 2 ≤ 1000 by decide)
theorem tr_nil : EvTr CS (tTup tNil) σ H (.tup []) := tr_tup ts_nil (Nat.zero_le _)
theorem said_t (q1 : ∀ H2, Ex H H2 → Q1 (.str "shape") H2) : Rs A.t (metE A Q1) H := fun H2 e => .t (q1 H2 e)
theorem said_p (q1 : ∀ H2, Ex H H2 → Q1 (.str "point") H2) : Rs A.p (metE A Q1) H := fun H2 e => .p (q1 H2 e)
theorem said_m (q1 : ∀ H2, Ex H H2 → Q1 (.str "many 200") H2) : Rz A.m "limit" (metE A Q1) H (.int 200) := fun d H2 hd e => .m hd (q1 H2 e)
theorem m_dot (h : EvTs CS ta σ H ts) (hz : ts.length ≤ 1000) (hf : Tr.cors (.tup ts) = false) (q1 : ∀ H2, Ex H H2 → Q1 (.str "shape") H2) : tCallR (spDot CS A.t) (metE A Q1) ta σ H R := h H (Ex.refl _) _ fun vs H2 e2 x => ⟨by rw [x.len]; exact hz, ts, x, ⟨hz, fun _ _ => True.intro⟩, hf, said_t fun H3 e3 => q1 H3 (e2.trans e3)⟩
theorem m_are (h : EvTs CS ta σ H ts) (hz : ts.length ≤ 1000) (hf : Tr.ring (.tup ts) = false) (q1 : ∀ H2, Ex H H2 → Q1 (.str "shape") H2) : tCallR (spAre CS A.t) (metE A Q1) ta σ H R := h H (Ex.refl _) _ fun vs H2 e2 x => ⟨by rw [x.len]; exact hz, .inl ⟨ts, x, ⟨hz, fun _ _ => True.intro⟩, hf, said_t fun H3 e3 => q1 H3 (e2.trans e3)⟩⟩
theorem m_lin (h : EvTs CS ta σ H ts) (hz : ts.length ≤ 1000) (hf : Tr.line (.tup ts) = false) (q1 : ∀ H2, Ex H H2 → Q1 (.str "shape") H2) : tCallR (spLin CS A.t) (metE A Q1) ta σ H R := h H (Ex.refl _) _ fun vs H2 e2 x => ⟨by rw [x.len]; exact hz, .inl ⟨ts, x, ⟨hz, fun _ _ => True.intro⟩, hf, said_t fun H3 e3 => q1 H3 (e2.trans e3)⟩⟩
theorem m_fil (h : EvTs CS ta σ H ts) (fw : Fw 2 (.tup ts)) (hf : Tr.area (.tup ts) = false) (q1 : ∀ H2, Ex H H2 → Q1 (.str "shape") H2) : tCallR (spFil CS A.t) (metE A Q1) ta σ H R := h H (Ex.refl _) _ fun vs H2 e2 x => ⟨by rw [x.len]; exact fw.1, .inl ⟨ts, x, fw, hf, said_t fun H3 e3 => q1 H3 (e2.trans e3)⟩⟩
theorem m_shp (h1 : EvTr CS t1 σ H a) (h2 : EvTr CS t2 σ H b) (h3 : EvTr CS t3 σ H c) (f1 : Fw 3 a) (f2 : Fw 2 b) (f3 : Fw 1 c) (hf : toldT a b c = false) (q1 : ∀ H2, Ex H H2 → Q1 (.str "shape") H2) : tMake CS (spSI CS A.t A.m) [] (metE A Q1) (tCons t1 (tCons t2 (tCons t3 tNil))) σ H R := by
  refine go_mk3 (h1 H (Ex.refl _) _ fun x H2 e2 x1 => ?_)
  refine h2 H2 e2 _ fun y H3 e3 x2 => ?_
  refine h3 H3 (e2.trans e3) _ fun z H4 e4 x3 => ?_
  exact fun k dx nk ndx ne => si_go (.inl ⟨⟨a, b, c, x1.mono (e3.trans e4), x2.mono e4, x3, f1, f2, f3, hf⟩, said_t fun H5 e5 => q1 H5 (e2.trans (e3.trans (e4.trans e5)))⟩) k dx nk ndx ne
theorem m_rfl (h : EvTr CS te σ H t) (fw : Fw 1 t) (hf : t.cors = false) (q1 : ∀ H2, Ex H H2 → Q1 (.str "shape") H2) : tCall (spRfl CS A.t A.m) [] (metE A Q1) (tCons te tNil) σ H R := go_call1 (h H (Ex.refl _) _ fun v H2 e2 x => ⟨v, rfl, .inl ⟨t, x, fw, hf, said_t fun H3 e3 => q1 H3 (e2.trans e3)⟩⟩)
end
end Q
set_option Elab.async false
set_option linter.all false
set_option maxRecDepth 100000
set_option maxHeartbeats 8000000
/-! what is told wrong; rows; too few -/
namespace Q
open PySem L2 PySem.Spec PyProof.Rows PySem.Calls PySem.OwnX LamX LamY
open Evl
section
variable {t : Tr} {x y z u : Int}
theorem b_cor (hc : t.cor = false) : Tr.cors (.tup [cT (x, y), t, cT (z, u)]) = false := by
  show ((cT (x, y)).cor && (t.cor && ((cT (z, u)).cor && true))) = false
  rw [hc]
  rfl
theorem b_las (hc : t.cor = false) : Tr.cors (.tup [cT (x, y), cT (z, u), t]) = false := by
  show ((cT (x, y)).cor && ((cT (z, u)).cor && (t.cor && true))) = false
  rw [hc]
  rfl
theorem b_dot (hc : t.cor = false) : Tr.cors (.tup [cT (x, y), t]) = false := by
  show ((cT (x, y)).cor && (t.cor && true)) = false
  rw [hc]
  rfl
theorem b_mid (hc : t.cor = false) : Tr.ring (.tup [cT (x, y), t, cT (z, u)]) = false := by
  unfold Tr.ring
  rw [b_cor hc]
  rfl
theorem b_rin (hc : t.cor = false) : Tr.ring (.tup [cT (x, y), cT (z, u), t]) = false := by
  unfold Tr.ring
  rw [b_las hc]
  rfl
theorem b_two (hc : t.cor = false) : Tr.line (.tup [cT (x, y), t]) = false := by
  unfold Tr.line
  rw [b_dot hc]
  rfl
theorem b_fil (hc : t.cor = false) : Tr.area (.tup [.tup [cT (x, y), cT (z, u), t]]) = false := by
  show (decide (1 ≤ 1) && (Tr.ring (.tup [cT (x, y), cT (z, u), t]) && true)) = false
  rw [b_rin hc]
  rfl
theorem b_are (hc : t.cor = false) : toldT (.tup [.tup [.tup [cT (x, y), cT (z, u), t]]]) (.tup []) (.tup []) = false := by
  show ((Tr.area (.tup [.tup [cT (x, y), cT (z, u), t]]) && true) && (true && true)) = false
  rw [b_fil hc]
  rfl
theorem b_pie (hc : t.cor = false) : toldT (.tup []) (.tup [.tup [cT (x, y), t]]) (.tup []) = false := by
  show (true && ((Tr.piece (.tup [cT (x, y), t]) && true) && true)) = false
  unfold Tr.piece
  rw [b_dot hc]
  rfl
theorem b_pts (hc : t.cor = false) : toldT (.tup []) (.tup []) (.tup [cT (x, y), t]) = false := by
  show (true && (true && Tr.cors (.tup [cT (x, y), t]))) = false
  rw [b_dot hc]
  rfl
theorem fw1 (n : Nat) {ts : List Tr} (h : ts.length ≤ 1000) (k : ∀ u ∈ ts, Fw n u) : Fw (n + 1) (.tup ts) := ⟨h, k⟩
theorem fw_0 {ts : List Tr} (h : ts.length ≤ 1000) : Fw 1 (.tup ts) := ⟨h, fun _ _ => True.intro⟩
theorem fw_s {n : Nat} (h : Fw n t) : Fw (n + 1) (.tup [t]) := ⟨(show 1 ≤ 1000 by decide), fun u m => by
  rcases List.mem_singleton.mp m with rfl
  exact h⟩
theorem f_thr : Fw 1 (.tup [cT (x, y), t, cT (z, u)]) := fw_0 (show 3 ≤ 1000 by decide)
theorem f_two : Fw 1 (.tup [cT (x, y), t]) := fw_0 (show 2 ≤ 1000 by decide)
theorem f_fil : Fw 2 (.tup [.tup [cT (x, y), cT (z, u), t]]) := fw_s (fw_0 (show 3 ≤ 1000 by decide))
theorem f_are : Fw 3 (.tup [.tup [.tup [cT (x, y), cT (z, u), t]]]) := fw_s f_fil
theorem f_pie : Fw 2 (.tup [.tup [cT (x, y), t]]) := fw_s f_two
theorem f_one2 : Fw 2 (.tup [.tup [cT (x, y), cT (z, u)]]) := fw_s f_two
theorem f_one1 : Fw 2 (.tup [.tup [cT (x, y)]]) := fw_s (fw_0 (show 1 ≤ 1000 by decide))
theorem f_emp : Fw 3 (.tup [.tup []]) := fw_s (fw_nil 2)
end
/-- a row of nothing that may be told -/
structure RowT (t : Tr) : Prop where
  c : t.cors = false
  a : t.eachIs Tr.area = false
  p : t.eachIs Tr.piece = false
  r : t.area = false
  f3 : Fw 3 t
  f2 : Fw 2 t
  f1 : Fw 1 t
section
variable {t : Tr}
theorem RowT.b1 (h : RowT t) : toldT t (.tup []) (.tup []) = false := by unfold toldT; rw [h.a]; rfl
theorem RowT.b2 (h : RowT t) : toldT (.tup []) t (.tup []) = false := by unfold toldT; rw [h.p]; rfl
theorem RowT.b3 (h : RowT t) : toldT (.tup []) (.tup []) t = false := by unfold toldT; rw [h.c]; rfl
theorem RowT.b4 (h : RowT t) : toldT (.tup [t]) (.tup []) (.tup []) = false := by
  show ((t.area && true) && (true && true)) = false
  rw [h.r]
  rfl
theorem RowT.rg (h : RowT t) : t.ring = false := by unfold Tr.ring; rw [h.c]; rfl
theorem RowT.b6 (h : RowT t) : Tr.area (.tup [t]) = false := by
  show (decide (1 ≤ 1) && (t.ring && true)) = false
  rw [h.rg]
  rfl
theorem RowT.b5 (h : RowT t) : toldT (.tup [.tup [t]]) (.tup []) (.tup []) = false := by
  show ((Tr.area (.tup [t]) && true) && (true && true)) = false
  rw [h.b6]
  rfl
theorem RowT.b7 (h : RowT t) : t.cors = false := h.c
theorem RowT.g1 (h : RowT t) : Fw 3 (.tup [t]) := fw_s h.f2
theorem RowT.g2 (h : RowT t) : Fw 3 (.tup [.tup [t]]) := fw_s (fw_s h.f1)
theorem RowT.g3 (h : RowT t) : Fw 2 (.tup [t]) := fw_s h.f1
end
def OddV (CS : Addr) (H : Hp) (v : V) : Prop := ∃ t, Tr1 CS H v t ∧ t.cor = false ∧ t.noForm = true ∧ Fw3 t
def RowV (CS : Addr) (H : Hp) (v : V) : Prop := ∃ t, Tr1 CS H v t ∧ RowT t
def spTw (CS : Addr) (T : List (Addr × Str)) : Sp := fun vs H Q _ => ∃ v, vs = [v] ∧ OddV CS (cutT H) v ∧ Tabs T H ∧ ∀ l H', ExtN H H' → Tabs T H' → H' l = some (.lst ((List.replicate 8 ("shape" : Str)).map V.str)) → Q (.ref l) H'
def spRw (CS : Addr) (T : List (Addr × Str)) : Sp := fun vs H Q _ => ∃ v, vs = [v] ∧ RowV CS (cutT H) v ∧ Tabs T H ∧ ∀ l H', ExtN H H' → Tabs T H' → H' l = some (.lst ((List.replicate 7 ("shape" : Str)).map V.str)) → Q (.ref l) H'
def spFw (T : List (Addr × Str)) : Sp := fun vs H Q _ => vs = [] ∧ Tabs T H ∧ ∀ l H', ExtN H H' → Tabs T H' → H' l = some (.lst ((List.replicate 8 ("shape" : Str)).map V.str)) → Q (.ref l) H'
section
variable {P : Program} {w : World} {K : PySem.W.Frag} {mg : Str → Option Value} {base : Heap} {CS pW cW : Addr} {A : Fv} {T : List (Addr × Str)}
abbrev sTw : Stmt := top 115
abbrev nmTw : List Str := ["odd", "found"]
theorem scTw : FnScope nmTw ["odd"] (defScope sTw) := ⟨rfl, rfl, rfl, by decide +kernel, rfl, by decide +kernel, by decide +kernel⟩
theorem ok_tw {f : Addr} {oc kV doc pm ct : Value} {od an : Option Addr} {osl : Array (Option Value)} (lk : K.lookup f = some ⟨oc, od, .func (PySem.W.fnOf "_law_told_wrong" "_law_told_wrong" (defArgs sTw) (defBody sTw) (defScope sTw) .none kV doc pm an (.ref cW) ct), osl⟩) (hcd : PySem.W.codeIn K (.ref cW) "_law_told_wrong" = true)
    (F : MF P w K mg A) (S : SC K mg CS) (TBe : TabB base mg cW pW) (mem : (pW, (((Str.ofString "_law_told_wrong") ++ ".<locals>." : Str) ++ "<lambda>" : Str)) ∈ T) (uni : ∀ p ∈ T, p.1 = pW → p.2 = (((Str.ofString "_law_told_wrong") ++ ".<locals>." : Str) ++ "<lambda>" : Str))
    (CA : ClR P w K mg base 13 "area" (spAre CS A.t)) (CL : ClR P w K mg base 11 "line" (spLin CS A.t)) (CD : ClR P w K mg base 11 "dots" (spDot CS A.t)) (CF : ClR P w K mg base 11 "filled" (spFil CS A.t)) (MS : MqX P w K mg base 8 CS (spSI CS A.t A.m)) (CR : ClX P w K mg base 6 "ring_flaws" (spRfl CS A.t A.m)) :
    FnG P w K mg base CX0 16 f (PySem.W.fnOf "_law_told_wrong" "_law_told_wrong" (defArgs sTw) (defBody sTw) (defScope sTw) .none kV doc pm an (.ref cW) ct) ["odd"] (spTw CS T) := by
  refine fnG_of (N := nmTw) lk hcd scTw (fun vs H Q E h => ?_) (fun A' l s H vs Q E gd0 hr h => ?_)
  · obtain ⟨v, rfl, _⟩ := h
    rfl
  · obtain ⟨v, rfl, ⟨t, od, hc, _, _⟩, tabs, q⟩ := h
    have LT : LamT (cxOf CX0 P w K mg base nmTw "_law_told_wrong" (defScope sTw) f (.ref cW) A' l s H E).nox T cW pW := ⟨TBe, rfl, mem, uni⟩
    refine ⟨_, PSs.nox (pss_cons (ps_set (i := 1) scTw.nd rfl (Or.inl rfl) (pe_lst (pa_cons (pe_met F (by rfl) LT hr (lamS_by (sc := defScope sTw) (by decide +kernel)) rfl (fun _ _ _ _ _ => rfl) (fun B outer s H E f c2 hr2 => by exact (pe_clR CA (goes_of (W := fun cls d _ H => E cls d H) (takes_of rfl rfl rfl rfl) fun _ _ _ _ h => h) hr2 (by decide) (by rfl) (pa_cons (pe_tup (pa_cons (pe_int) (pa_cons (pe_int) pa_nil))) (pa_cons (pv 0) (pa_cons (pe_tup (pa_cons (pe_int) (pa_cons (pe_int) pa_nil))) pa_nil)))))) pa_nil)))
      (pss_cons (ps_expr (pe_bm PySem.F.plainAttrs_list PySem.F.slot_list_append PySem.F.type_list_append mt_append (pv 1) (pa_cons (pe_met F (by rfl) LT hr (lamS_by (sc := defScope sTw) (by decide +kernel)) rfl (fun _ _ _ _ _ => rfl) (fun B outer s H E f c2 hr2 => by exact (pe_clR CL (goes_of (W := fun cls d _ H => E cls d H) (takes_of rfl rfl rfl rfl) fun _ _ _ _ h => h) hr2 (by decide) (by rfl) (pa_cons (pe_tup (pa_cons (pe_int) (pa_cons (pe_int) pa_nil))) (pa_cons (pv 0) pa_nil))))) pa_nil)))
      (pss_cons (ps_expr (pe_bm PySem.F.plainAttrs_list PySem.F.slot_list_append PySem.F.type_list_append mt_append (pv 1) (pa_cons (pe_met F (by rfl) LT hr (lamS_by (sc := defScope sTw) (by decide +kernel)) rfl (fun _ _ _ _ _ => rfl) (fun B outer s H E f c2 hr2 => by exact (pe_clR CD (goes_of (W := fun cls d _ H => E cls d H) (takes_of rfl rfl rfl rfl) fun _ _ _ _ h => h) hr2 (by decide) (by rfl) (pa_cons (pe_tup (pa_cons (pe_int) (pa_cons (pe_int) pa_nil))) (pa_cons (pv 0) pa_nil))))) pa_nil)))
      (pss_cons (ps_expr (pe_bm PySem.F.plainAttrs_list PySem.F.slot_list_append PySem.F.type_list_append mt_append (pv 1) (pa_cons (pe_met F (by rfl) LT hr (lamS_by (sc := defScope sTw) (by decide +kernel)) rfl (fun _ _ _ _ _ => rfl) (fun B outer s H E f c2 hr2 => by exact (pe_clR CF (goes_of (W := fun cls d _ H => E cls d H) (takes_of rfl rfl rfl rfl) fun _ _ _ _ h => h) hr2 (by decide) (by rfl) (pa_cons (pe_tup (pa_cons (pe_tup (pa_cons (pe_int) (pa_cons (pe_int) pa_nil))) (pa_cons (pe_tup (pa_cons (pe_int) (pa_cons (pe_int) pa_nil))) (pa_cons (pv 0) pa_nil)))) pa_nil)))) pa_nil)))
      (pss_cons (ps_expr (pe_bm PySem.F.plainAttrs_list PySem.F.slot_list_append PySem.F.type_list_append mt_append (pv 1) (pa_cons (pe_met F (by rfl) LT hr (lamS_by (sc := defScope sTw) (by decide +kernel)) rfl (fun _ _ _ _ _ => rfl) (fun B outer s H E f c2 hr2 => by exact (pe_mqX MS (goes_of (W := fun cls d _ H => E cls d H) (takes_of rfl rfl rfl rfl) fun _ _ _ _ h => h) hr2 (by decide) (by rfl) S.g (pa_cons (pe_tup (pa_cons (pe_tup (pa_cons (pe_tup (pa_cons (pe_tup (pa_cons (pe_int) (pa_cons (pe_int) pa_nil))) (pa_cons (pe_tup (pa_cons (pe_int) (pa_cons (pe_int) pa_nil))) (pa_cons (pv 0) pa_nil)))) pa_nil)) pa_nil)) (pa_cons (pe_tup pa_nil) (pa_cons (pe_tup pa_nil) pa_nil)))))) pa_nil)))
      (pss_cons (ps_expr (pe_bm PySem.F.plainAttrs_list PySem.F.slot_list_append PySem.F.type_list_append mt_append (pv 1) (pa_cons (pe_met F (by rfl) LT hr (lamS_by (sc := defScope sTw) (by decide +kernel)) rfl (fun _ _ _ _ _ => rfl) (fun B outer s H E f c2 hr2 => by exact (pe_mqX MS (goes_of (W := fun cls d _ H => E cls d H) (takes_of rfl rfl rfl rfl) fun _ _ _ _ h => h) hr2 (by decide) (by rfl) S.g (pa_cons (pe_tup pa_nil) (pa_cons (pe_tup (pa_cons (pe_tup (pa_cons (pe_tup (pa_cons (pe_int) (pa_cons (pe_int) pa_nil))) (pa_cons (pv 0) pa_nil))) pa_nil)) (pa_cons (pe_tup pa_nil) pa_nil)))))) pa_nil)))
      (pss_cons (ps_expr (pe_bm PySem.F.plainAttrs_list PySem.F.slot_list_append PySem.F.type_list_append mt_append (pv 1) (pa_cons (pe_met F (by rfl) LT hr (lamS_by (sc := defScope sTw) (by decide +kernel)) rfl (fun _ _ _ _ _ => rfl) (fun B outer s H E f c2 hr2 => by exact (pe_mqX MS (goes_of (W := fun cls d _ H => E cls d H) (takes_of rfl rfl rfl rfl) fun _ _ _ _ h => h) hr2 (by decide) (by rfl) S.g (pa_cons (pe_tup pa_nil) (pa_cons (pe_tup pa_nil) (pa_cons (pe_tup (pa_cons (pe_tup (pa_cons (pe_int) (pa_cons (pe_int) pa_nil))) (pa_cons (pv 0) pa_nil))) pa_nil)))))) pa_nil)))
      (pss_one (ps_ret (pe_op op_cat (pv 1) (pe_lst (pa_cons (pe_met F (by rfl) LT hr (lamS_by (sc := defScope sTw) (by decide +kernel)) rfl (fun _ _ _ _ _ => rfl) (fun B outer s H E f c2 hr2 => by exact (pe_clX CR (goes_of (W := fun cls d _ H => E cls d H) (takes_of rfl rfl rfl rfl) fun _ _ _ _ h => h) hr2 (by decide) (by rfl) (pa_cons (pe_tup (pa_cons (pe_tup (pa_cons (pe_int) (pa_cons (pe_int) pa_nil))) (pa_cons (pv 0) (pa_cons (pe_tup (pa_cons (pe_int) (pa_cons (pe_int) pa_nil))) pa_nil)))) pa_nil)))) pa_nil)))))))))))), ?_⟩
    have nt := nt_cutT (H := H)
    dsimp only [L2.start, List.set]
    refine q_said1 (A := A) (x := "shape") nt cutT_ex tabs (fun H1 e Q1 q1 => m_are (CS := CS) (ts_cons tr_pt (ts_cons (tr_var rfl (od.mono e)) (ts_cons tr_pt ts_nil))) (by show 3 ≤ 1000; decide) (b_mid hc) q1) fun F0 H1 w1 => ?_
    refine q_saidN (A := A) (x := "shape") nt w1 rfl (by show 1 < 40; decide) (fun H2 e Q1 q1 => m_lin (CS := CS) (ts_cons tr_pt (ts_cons (tr_var rfl (od.mono e)) ts_nil)) (by show 2 ≤ 1000; decide) (b_two hc) q1) fun H2 w2 => ?_
    refine q_saidN (A := A) (x := "shape") nt w2 rfl (by show 2 < 40; decide) (fun H3 e Q1 q1 => m_dot (CS := CS) (ts_cons tr_pt (ts_cons (tr_var rfl (od.mono e)) ts_nil)) (by show 2 ≤ 1000; decide) (b_dot hc) q1) fun H3 w3 => ?_
    refine q_saidN (A := A) (x := "shape") nt w3 rfl (by show 3 < 40; decide) (fun H4 e Q1 q1 => m_fil (CS := CS) (ts_cons (tr_tup (ts_cons tr_pt (ts_cons tr_pt (ts_cons (tr_var rfl (od.mono e)) ts_nil))) (by show 3 ≤ 1000; decide)) ts_nil) f_fil (b_fil hc) q1) fun H4 w4 => ?_
    refine q_saidN (A := A) (x := "shape") nt w4 rfl (by show 4 < 40; decide) (fun H5 e Q1 q1 => m_shp (CS := CS) (tr_tup (ts_cons (tr_tup (ts_cons (tr_tup (ts_cons tr_pt (ts_cons tr_pt (ts_cons (tr_var rfl (od.mono e)) ts_nil))) (by show 3 ≤ 1000; decide)) ts_nil) (by show 1 ≤ 1000; decide)) ts_nil) (by show 1 ≤ 1000; decide)) tr_nil tr_nil f_are (fw_nil 2) (fw_nil 1) (b_are hc) q1) fun H5 w5 => ?_
    refine q_saidN (A := A) (x := "shape") nt w5 rfl (by show 5 < 40; decide) (fun H6 e Q1 q1 => m_shp (CS := CS) tr_nil (tr_tup (ts_cons (tr_tup (ts_cons tr_pt (ts_cons (tr_var rfl (od.mono e)) ts_nil)) (by show 2 ≤ 1000; decide)) ts_nil) (by show 1 ≤ 1000; decide)) tr_nil (fw_nil 3) f_pie (fw_nil 1) (b_pie hc) q1) fun H6 w6 => ?_
    refine q_saidN (A := A) (x := "shape") nt w6 rfl (by show 6 < 40; decide) (fun H7 e Q1 q1 => m_shp (CS := CS) tr_nil tr_nil (tr_tup (ts_cons tr_pt (ts_cons (tr_var rfl (od.mono e)) ts_nil)) (by show 2 ≤ 1000; decide)) (fw_nil 3) (fw_nil 2) f_two (b_pts hc) q1) fun H7 w7 => ?_
    obtain ⟨nl, ex, tabsZ, hl⟩ := w7
    refine s_retQ ⟨_, rfl, go_lst1 (go_lam (A := A) (x := "shape") tabsZ (fun H8 e8 Q1 q1 => m_rfl (CS := CS) (tr_tup (ts_cons tr_pt (ts_cons (tr_var rfl (od.mono (nt.ext ex e8))) (ts_cons tr_pt ts_nil))) (by show 3 ≤ 1000; decide)) f_thr (b_cor hc) q1) fun H8 e8 t8 => ⟨by decide, fun m hm => ?_⟩)⟩
    have hl8 := e8 _ _ hl fun _ z => nomatch z
    have em := Ex.new (o := .lst [.str "shape"]) hm
    refine ⟨F0, m, _, _, rfl, rfl, em _ _ hl8, upd_same, by show 8 ≤ sizeLine; decide, fun r hr => ?_⟩
    have er := Ex.new (o := .lst ((List.replicate 7 ("shape" : Str)).map V.str ++ [V.str "shape"])) hr
    exact q r _ (extN_of (((nt.ext ex e8).trans em).trans er)) ((t8.ext em).ext er) upd_same
abbrev sRw : Stmt := top 116
abbrev nmRw : List Str := ["odd", "found"]
theorem scRw : FnScope nmRw ["odd"] (defScope sRw) := ⟨rfl, rfl, rfl, by decide +kernel, rfl, by decide +kernel, by decide +kernel⟩
theorem ok_rw {f : Addr} {oc kV doc pm ct : Value} {od an : Option Addr} {osl : Array (Option Value)} (lk : K.lookup f = some ⟨oc, od, .func (PySem.W.fnOf "_law_rows_wrong" "_law_rows_wrong" (defArgs sRw) (defBody sRw) (defScope sRw) .none kV doc pm an (.ref cW) ct), osl⟩) (hcd : PySem.W.codeIn K (.ref cW) "_law_rows_wrong" = true)
    (F : MF P w K mg A) (S : SC K mg CS) (TBe : TabB base mg cW pW) (mem : (pW, (((Str.ofString "_law_rows_wrong") ++ ".<locals>." : Str) ++ "<lambda>" : Str)) ∈ T) (uni : ∀ p ∈ T, p.1 = pW → p.2 = (((Str.ofString "_law_rows_wrong") ++ ".<locals>." : Str) ++ "<lambda>" : Str))
    (CF : ClR P w K mg base 11 "filled" (spFil CS A.t)) (MS : MqX P w K mg base 8 CS (spSI CS A.t A.m)) (CR : ClX P w K mg base 6 "ring_flaws" (spRfl CS A.t A.m)) :
    FnG P w K mg base CX0 16 f (PySem.W.fnOf "_law_rows_wrong" "_law_rows_wrong" (defArgs sRw) (defBody sRw) (defScope sRw) .none kV doc pm an (.ref cW) ct) ["odd"] (spRw CS T) := by
  refine fnG_of (N := nmRw) lk hcd scRw (fun vs H Q E h => ?_) (fun A' l s H vs Q E gd0 hr h => ?_)
  · obtain ⟨v, rfl, _⟩ := h
    rfl
  · obtain ⟨v, rfl, ⟨t, od, hr0⟩, tabs, q⟩ := h
    have LT : LamT (cxOf CX0 P w K mg base nmRw "_law_rows_wrong" (defScope sRw) f (.ref cW) A' l s H E).nox T cW pW := ⟨TBe, rfl, mem, uni⟩
    refine ⟨_, PSs.nox (pss_cons (ps_set (i := 1) scRw.nd rfl (Or.inl rfl) (pe_lst (pa_cons (pe_met F (by rfl) LT hr (lamS_by (sc := defScope sRw) (by decide +kernel)) rfl (fun _ _ _ _ _ => rfl) (fun B outer s H E f c2 hr2 => by exact (pe_mqX MS (goes_of (W := fun cls d _ H => E cls d H) (takes_of rfl rfl rfl rfl) fun _ _ _ _ h => h) hr2 (by decide) (by rfl) S.g (pa_cons (pv 0) (pa_cons (pe_tup pa_nil) (pa_cons (pe_tup pa_nil) pa_nil)))))) pa_nil)))
      (pss_cons (ps_expr (pe_bm PySem.F.plainAttrs_list PySem.F.slot_list_append PySem.F.type_list_append mt_append (pv 1) (pa_cons (pe_met F (by rfl) LT hr (lamS_by (sc := defScope sRw) (by decide +kernel)) rfl (fun _ _ _ _ _ => rfl) (fun B outer s H E f c2 hr2 => by exact (pe_mqX MS (goes_of (W := fun cls d _ H => E cls d H) (takes_of rfl rfl rfl rfl) fun _ _ _ _ h => h) hr2 (by decide) (by rfl) S.g (pa_cons (pe_tup pa_nil) (pa_cons (pv 0) (pa_cons (pe_tup pa_nil) pa_nil)))))) pa_nil)))
      (pss_cons (ps_expr (pe_bm PySem.F.plainAttrs_list PySem.F.slot_list_append PySem.F.type_list_append mt_append (pv 1) (pa_cons (pe_met F (by rfl) LT hr (lamS_by (sc := defScope sRw) (by decide +kernel)) rfl (fun _ _ _ _ _ => rfl) (fun B outer s H E f c2 hr2 => by exact (pe_mqX MS (goes_of (W := fun cls d _ H => E cls d H) (takes_of rfl rfl rfl rfl) fun _ _ _ _ h => h) hr2 (by decide) (by rfl) S.g (pa_cons (pe_tup pa_nil) (pa_cons (pe_tup pa_nil) (pa_cons (pv 0) pa_nil)))))) pa_nil)))
      (pss_cons (ps_expr (pe_bm PySem.F.plainAttrs_list PySem.F.slot_list_append PySem.F.type_list_append mt_append (pv 1) (pa_cons (pe_met F (by rfl) LT hr (lamS_by (sc := defScope sRw) (by decide +kernel)) rfl (fun _ _ _ _ _ => rfl) (fun B outer s H E f c2 hr2 => by exact (pe_mqX MS (goes_of (W := fun cls d _ H => E cls d H) (takes_of rfl rfl rfl rfl) fun _ _ _ _ h => h) hr2 (by decide) (by rfl) S.g (pa_cons (pe_tup (pa_cons (pv 0) pa_nil)) (pa_cons (pe_tup pa_nil) (pa_cons (pe_tup pa_nil) pa_nil)))))) pa_nil)))
      (pss_cons (ps_expr (pe_bm PySem.F.plainAttrs_list PySem.F.slot_list_append PySem.F.type_list_append mt_append (pv 1) (pa_cons (pe_met F (by rfl) LT hr (lamS_by (sc := defScope sRw) (by decide +kernel)) rfl (fun _ _ _ _ _ => rfl) (fun B outer s H E f c2 hr2 => by exact (pe_mqX MS (goes_of (W := fun cls d _ H => E cls d H) (takes_of rfl rfl rfl rfl) fun _ _ _ _ h => h) hr2 (by decide) (by rfl) S.g (pa_cons (pe_tup (pa_cons (pe_tup (pa_cons (pv 0) pa_nil)) pa_nil)) (pa_cons (pe_tup pa_nil) (pa_cons (pe_tup pa_nil) pa_nil)))))) pa_nil)))
      (pss_cons (ps_expr (pe_bm PySem.F.plainAttrs_list PySem.F.slot_list_append PySem.F.type_list_append mt_append (pv 1) (pa_cons (pe_met F (by rfl) LT hr (lamS_by (sc := defScope sRw) (by decide +kernel)) rfl (fun _ _ _ _ _ => rfl) (fun B outer s H E f c2 hr2 => by exact (pe_clR CF (goes_of (W := fun cls d _ H => E cls d H) (takes_of rfl rfl rfl rfl) fun _ _ _ _ h => h) hr2 (by decide) (by rfl) (pa_cons (pv 0) pa_nil)))) pa_nil)))
      (pss_one (ps_ret (pe_op op_cat (pv 1) (pe_lst (pa_cons (pe_met F (by rfl) LT hr (lamS_by (sc := defScope sRw) (by decide +kernel)) rfl (fun _ _ _ _ _ => rfl) (fun B outer s H E f c2 hr2 => by exact (pe_clX CR (goes_of (W := fun cls d _ H => E cls d H) (takes_of rfl rfl rfl rfl) fun _ _ _ _ h => h) hr2 (by decide) (by rfl) (pa_cons (pv 0) pa_nil)))) pa_nil))))))))))), ?_⟩
    have nt := nt_cutT (H := H)
    dsimp only [L2.start, List.set]
    refine q_said1 (A := A) (x := "shape") nt cutT_ex tabs (fun H1 e Q1 q1 => m_shp (CS := CS) (tr_var rfl (od.mono e)) tr_nil tr_nil hr0.f3 (fw_nil 2) (fw_nil 1) hr0.b1 q1) fun F0 H1 w1 => ?_
    refine q_saidN (A := A) (x := "shape") nt w1 rfl (by show 1 < 40; decide) (fun H2 e Q1 q1 => m_shp (CS := CS) tr_nil (tr_var rfl (od.mono e)) tr_nil (fw_nil 3) hr0.f2 (fw_nil 1) hr0.b2 q1) fun H2 w2 => ?_
    refine q_saidN (A := A) (x := "shape") nt w2 rfl (by show 2 < 40; decide) (fun H3 e Q1 q1 => m_shp (CS := CS) tr_nil tr_nil (tr_var rfl (od.mono e)) (fw_nil 3) (fw_nil 2) hr0.f1 hr0.b3 q1) fun H3 w3 => ?_
    refine q_saidN (A := A) (x := "shape") nt w3 rfl (by show 3 < 40; decide) (fun H4 e Q1 q1 => m_shp (CS := CS) (tr_tup (ts_cons (tr_var rfl (od.mono e)) ts_nil) (by show 1 ≤ 1000; decide)) tr_nil tr_nil hr0.g1 (fw_nil 2) (fw_nil 1) hr0.b4 q1) fun H4 w4 => ?_
    refine q_saidN (A := A) (x := "shape") nt w4 rfl (by show 4 < 40; decide) (fun H5 e Q1 q1 => m_shp (CS := CS) (tr_tup (ts_cons (tr_tup (ts_cons (tr_var rfl (od.mono e)) ts_nil) (by show 1 ≤ 1000; decide)) ts_nil) (by show 1 ≤ 1000; decide)) tr_nil tr_nil hr0.g2 (fw_nil 2) (fw_nil 1) hr0.b5 q1) fun H5 w5 => ?_
    refine q_saidN (A := A) (x := "shape") nt w5 rfl (by show 5 < 40; decide) (fun H6 e Q1 q1 => m_fil (CS := CS) (ts_cons (tr_var rfl (od.mono e)) ts_nil) hr0.g3 hr0.b6 q1) fun H6 w6 => ?_
    obtain ⟨nl, ex, tabsZ, hl⟩ := w6
    refine s_retQ ⟨_, rfl, go_lst1 (go_lam (A := A) (x := "shape") tabsZ (fun H8 e8 Q1 q1 => m_rfl (CS := CS) (tr_var rfl (od.mono (nt.ext ex e8))) hr0.f1 hr0.b7 q1) fun H8 e8 t8 => ⟨by decide, fun m hm => ?_⟩)⟩
    have hl8 := e8 _ _ hl fun _ z => nomatch z
    have em := Ex.new (o := .lst [.str "shape"]) hm
    refine ⟨F0, m, _, _, rfl, rfl, em _ _ hl8, upd_same, by show 7 ≤ sizeLine; decide, fun r hr => ?_⟩
    have er := Ex.new (o := .lst ((List.replicate 6 ("shape" : Str)).map V.str ++ [V.str "shape"])) hr
    exact q r _ (extN_of (((nt.ext ex e8).trans em).trans er)) ((t8.ext em).ext er) upd_same
abbrev sFw : Stmt := top 118
abbrev nmFw : List Str := ["found"]
theorem scFw : FnScope nmFw [] (defScope sFw) := ⟨rfl, rfl, rfl, by decide +kernel, rfl, by decide +kernel, by decide +kernel⟩
theorem ok_fw {f : Addr} {oc kV doc pm ct : Value} {od an : Option Addr} {osl : Array (Option Value)} (lk : K.lookup f = some ⟨oc, od, .func (PySem.W.fnOf "_law_few" "_law_few" (defArgs sFw) (defBody sFw) (defScope sFw) .none kV doc pm an (.ref cW) ct), osl⟩) (hcd : PySem.W.codeIn K (.ref cW) "_law_few" = true)
    (F : MF P w K mg A) (S : SC K mg CS) (TBe : TabB base mg cW pW) (mem : (pW, (((Str.ofString "_law_few") ++ ".<locals>." : Str) ++ "<lambda>" : Str)) ∈ T) (uni : ∀ p ∈ T, p.1 = pW → p.2 = (((Str.ofString "_law_few") ++ ".<locals>." : Str) ++ "<lambda>" : Str))
    (CA : ClR P w K mg base 13 "area" (spAre CS A.t)) (CL : ClR P w K mg base 11 "line" (spLin CS A.t)) (CF : ClR P w K mg base 11 "filled" (spFil CS A.t)) (MS : MqX P w K mg base 8 CS (spSI CS A.t A.m)) :
    FnG P w K mg base CX0 16 f (PySem.W.fnOf "_law_few" "_law_few" (defArgs sFw) (defBody sFw) (defScope sFw) .none kV doc pm an (.ref cW) ct) [] (spFw T) := by
  refine fnG_of (N := nmFw) lk hcd scFw (fun vs H Q E h => ?_) (fun A' l s H vs Q E gd0 hr h => ?_)
  · obtain ⟨rfl, _⟩ := h
    rfl
  · obtain ⟨rfl, tabs, q⟩ := h
    have LT : LamT (cxOf CX0 P w K mg base nmFw "_law_few" (defScope sFw) f (.ref cW) A' l s H E).nox T cW pW := ⟨TBe, rfl, mem, uni⟩
    refine ⟨_, PSs.nox (pss_cons (ps_set (i := 0) scFw.nd rfl (Or.inl rfl) (pe_lst (pa_cons (pe_met F (by rfl) LT hr (lamS_by (sc := defScope sFw) (by decide +kernel)) rfl (fun _ _ _ _ _ => rfl) (fun B outer s H E f c2 hr2 => by exact (pe_clR0 CA (goes_of (W := fun cls d _ H => E cls d H) (takes_of rfl rfl rfl rfl) fun _ _ _ _ h => h) hr2 (by decide) (by rfl)))) pa_nil)))
      (pss_cons (ps_expr (pe_bm PySem.F.plainAttrs_list PySem.F.slot_list_append PySem.F.type_list_append mt_append (pv 0) (pa_cons (pe_met F (by rfl) LT hr (lamS_by (sc := defScope sFw) (by decide +kernel)) rfl (fun _ _ _ _ _ => rfl) (fun B outer s H E f c2 hr2 => by exact (pe_clR CA (goes_of (W := fun cls d _ H => E cls d H) (takes_of rfl rfl rfl rfl) fun _ _ _ _ h => h) hr2 (by decide) (by rfl) (pa_cons (pe_tup (pa_cons (pe_int) (pa_cons (pe_int) pa_nil))) (pa_cons (pe_tup (pa_cons (pe_int) (pa_cons (pe_int) pa_nil))) pa_nil))))) pa_nil)))
      (pss_cons (ps_expr (pe_bm PySem.F.plainAttrs_list PySem.F.slot_list_append PySem.F.type_list_append mt_append (pv 0) (pa_cons (pe_met F (by rfl) LT hr (lamS_by (sc := defScope sFw) (by decide +kernel)) rfl (fun _ _ _ _ _ => rfl) (fun B outer s H E f c2 hr2 => by exact (pe_clR CL (goes_of (W := fun cls d _ H => E cls d H) (takes_of rfl rfl rfl rfl) fun _ _ _ _ h => h) hr2 (by decide) (by rfl) (pa_cons (pe_tup (pa_cons (pe_int) (pa_cons (pe_int) pa_nil))) pa_nil)))) pa_nil)))
      (pss_cons (ps_expr (pe_bm PySem.F.plainAttrs_list PySem.F.slot_list_append PySem.F.type_list_append mt_append (pv 0) (pa_cons (pe_met F (by rfl) LT hr (lamS_by (sc := defScope sFw) (by decide +kernel)) rfl (fun _ _ _ _ _ => rfl) (fun B outer s H E f c2 hr2 => by exact (pe_clR0 CL (goes_of (W := fun cls d _ H => E cls d H) (takes_of rfl rfl rfl rfl) fun _ _ _ _ h => h) hr2 (by decide) (by rfl)))) pa_nil)))
      (pss_cons (ps_expr (pe_bm PySem.F.plainAttrs_list PySem.F.slot_list_append PySem.F.type_list_append mt_append (pv 0) (pa_cons (pe_met F (by rfl) LT hr (lamS_by (sc := defScope sFw) (by decide +kernel)) rfl (fun _ _ _ _ _ => rfl) (fun B outer s H E f c2 hr2 => by exact (pe_clR0 CF (goes_of (W := fun cls d _ H => E cls d H) (takes_of rfl rfl rfl rfl) fun _ _ _ _ h => h) hr2 (by decide) (by rfl)))) pa_nil)))
      (pss_cons (ps_expr (pe_bm PySem.F.plainAttrs_list PySem.F.slot_list_append PySem.F.type_list_append mt_append (pv 0) (pa_cons (pe_met F (by rfl) LT hr (lamS_by (sc := defScope sFw) (by decide +kernel)) rfl (fun _ _ _ _ _ => rfl) (fun B outer s H E f c2 hr2 => by exact (pe_clR CF (goes_of (W := fun cls d _ H => E cls d H) (takes_of rfl rfl rfl rfl) fun _ _ _ _ h => h) hr2 (by decide) (by rfl) (pa_cons (pe_tup (pa_cons (pe_tup (pa_cons (pe_int) (pa_cons (pe_int) pa_nil))) (pa_cons (pe_tup (pa_cons (pe_int) (pa_cons (pe_int) pa_nil))) pa_nil))) pa_nil)))) pa_nil)))
      (pss_cons (ps_expr (pe_bm PySem.F.plainAttrs_list PySem.F.slot_list_append PySem.F.type_list_append mt_append (pv 0) (pa_cons (pe_met F (by rfl) LT hr (lamS_by (sc := defScope sFw) (by decide +kernel)) rfl (fun _ _ _ _ _ => rfl) (fun B outer s H E f c2 hr2 => by exact (pe_mqX MS (goes_of (W := fun cls d _ H => E cls d H) (takes_of rfl rfl rfl rfl) fun _ _ _ _ h => h) hr2 (by decide) (by rfl) S.g (pa_cons (pe_tup (pa_cons (pe_tup pa_nil) pa_nil)) (pa_cons (pe_tup pa_nil) (pa_cons (pe_tup pa_nil) pa_nil)))))) pa_nil)))
      (pss_one (ps_ret (pe_op op_cat (pv 0) (pe_lst (pa_cons (pe_met F (by rfl) LT hr (lamS_by (sc := defScope sFw) (by decide +kernel)) rfl (fun _ _ _ _ _ => rfl) (fun B outer s H E f c2 hr2 => by exact (pe_mqX MS (goes_of (W := fun cls d _ H => E cls d H) (takes_of rfl rfl rfl rfl) fun _ _ _ _ h => h) hr2 (by decide) (by rfl) S.g (pa_cons (pe_tup pa_nil) (pa_cons (pe_tup (pa_cons (pe_tup (pa_cons (pe_tup (pa_cons (pe_int) (pa_cons (pe_int) pa_nil))) pa_nil)) pa_nil)) (pa_cons (pe_tup pa_nil) pa_nil)))))) pa_nil)))))))))))), ?_⟩
    have nt := nt_cutT (H := H)
    dsimp only [L2.start, List.set]
    refine q_said1 (A := A) (x := "shape") nt cutT_ex tabs (fun H1 e Q1 q1 => m_are (CS := CS) ts_nil (Nat.zero_le _) (by decide) q1) fun F0 H1 w1 => ?_
    refine q_saidN (A := A) (x := "shape") nt w1 rfl (by show 1 < 40; decide) (fun H2 e Q1 q1 => m_are (CS := CS) (ts_cons tr_pt (ts_cons tr_pt ts_nil)) (by show 2 ≤ 1000; decide) (by decide) q1) fun H2 w2 => ?_
    refine q_saidN (A := A) (x := "shape") nt w2 rfl (by show 2 < 40; decide) (fun H3 e Q1 q1 => m_lin (CS := CS) (ts_cons tr_pt ts_nil) (by show 1 ≤ 1000; decide) (by decide) q1) fun H3 w3 => ?_
    refine q_saidN (A := A) (x := "shape") nt w3 rfl (by show 3 < 40; decide) (fun H4 e Q1 q1 => m_lin (CS := CS) ts_nil (Nat.zero_le _) (by decide) q1) fun H4 w4 => ?_
    refine q_saidN (A := A) (x := "shape") nt w4 rfl (by show 4 < 40; decide) (fun H5 e Q1 q1 => m_fil (CS := CS) ts_nil (fw_nil 2) (by decide) q1) fun H5 w5 => ?_
    refine q_saidN (A := A) (x := "shape") nt w5 rfl (by show 5 < 40; decide) (fun H6 e Q1 q1 => m_fil (CS := CS) (ts_cons (tr_tup (ts_cons tr_pt (ts_cons tr_pt ts_nil)) (by show 2 ≤ 1000; decide)) ts_nil) f_one2 (by decide) q1) fun H6 w6 => ?_
    refine q_saidN (A := A) (x := "shape") nt w6 rfl (by show 6 < 40; decide) (fun H7 e Q1 q1 => m_shp (CS := CS) (tr_tup (ts_cons tr_nil ts_nil) (by show 1 ≤ 1000; decide)) tr_nil tr_nil f_emp (fw_nil 2) (fw_nil 1) (by decide) q1) fun H7 w7 => ?_
    obtain ⟨nl, ex, tabsZ, hl⟩ := w7
    refine s_retQ ⟨_, rfl, go_lst1 (go_lam (A := A) (x := "shape") tabsZ (fun H8 e8 Q1 q1 => m_shp (CS := CS) tr_nil (tr_tup (ts_cons (tr_tup (ts_cons tr_pt ts_nil) (by show 1 ≤ 1000; decide)) ts_nil) (by show 1 ≤ 1000; decide)) tr_nil (fw_nil 3) f_one1 (fw_nil 1) (by decide) q1) fun H8 e8 t8 => ⟨by decide, fun m hm => ?_⟩)⟩
    have hl8 := e8 _ _ hl fun _ z => nomatch z
    have em := Ex.new (o := .lst [.str "shape"]) hm
    refine ⟨F0, m, _, _, rfl, rfl, em _ _ hl8, upd_same, by show 8 ≤ sizeLine; decide, fun r hr => ?_⟩
    have er := Ex.new (o := .lst ((List.replicate 7 ("shape" : Str)).map V.str ++ [V.str "shape"])) hr
    exact q r _ (extN_of (((nt.ext ex e8).trans em).trans er)) ((t8.ext em).ext er) upd_same
end
end Q
set_option Elab.async false
set_option linter.all false
set_option maxRecDepth 100000
set_option maxHeartbeats 8000000
/-! what is no shape -/
namespace Q
open PySem L2 PySem.Spec PyProof.Rows PySem.Calls PySem.OwnX LamX LamY
open Evl
def HeldX (P : Program) (w : World) (K : PySem.W.Frag) (mg : Str → Option Value) (base : Heap) (k : Nat) (f : Addr) (sp : Sp) : Prop := ∃ (k' : Nat) (fd : FuncData) (ps : List Str), k' ≤ k ∧ FnOk P w K mg base (L2.CX P w) k' f fd ps sp ∧ PySem.W.keepIn K (.ref f) = true ∧ Binds K fd ps []
def tCallM (M : Addr → Prop) (i : Nat) (sp : Sp) (E : XK) (t : TA) : TE := fun σ H Q => ∃ f, σ[i]? = some (some (.ref f)) ∧ M f ∧ t σ H fun vs H1 => sp vs H1 Q E
/-- a call of a def that a local name holds, one of several -/
theorem pe_callM {X : Cx} {k j i : Nat} {x : Str} {sp : Sp} {p pos : Pos} {e : Expr} {es : List Expr} {t : TA} {E : XK} {M : Addr → Prop} (A : ∀ f, M f → HeldX X.prog X.w X.K X.mg X.base k f sp) (go : Goes X E) (hr : Room j X.A) (hk : k ≤ j) (hN : X.N[i]? = some x) (hv : Vis X.env.scope x) (ha : PA X (e :: es) t)
    (hdb : (x == ("__debug__" : Str)) = false := by decide) (hcd : (x == ("__classdict__" : Str)) = false := by decide)
    (he : starEach (e :: es) X.env = (false, eval e X.env) :: starEach es X.env := by rfl) (hpl : (backTo pos (starEach es X.env)).any (·.1) = false := by rfl) : PE X (.Call (.Name x p) (e :: es) [] pos) (tCallM M i sp E t) := by
  refine ⟨fun pins s σ H Q I h => ?_⟩
  obtain ⟨f, hs, hM, ht⟩ := h
  obtain ⟨k', fd, ps, hk', F, kp, hb⟩ := A f hM
  refine (pe_callL (i := i) (f := f) (sp := sp) (dvs := []) (E := E) F (hr.mono (Nat.le_trans hk' hk)) hN hv kp hb .nil go ha hdb hcd he hpl).run pins s σ H Q I ⟨hs, ?_⟩
  have e0 : (fun (vs : List V) (H1 : Hp) => sp (vs ++ []) H1 Q E) = fun vs H1 => sp vs H1 Q E := by
    funext vs H1
    rw [List.append_nil]
  show t σ H (fun vs H1 => sp (vs ++ []) H1 Q E)
  rw [e0]
  exact ht
/-- without the tables and the list at l -/
def offL (l : Addr) (H : Hp) : Hp := fun a => if a = l then none else cutT H a
theorem offL_of {l a : Addr} {H : Hp} {o : HO} (h : H a = some o) (n : ∀ ps, o ≠ .tbl ps) (ne : a ≠ l) : offL l H a = some o := by
  unfold offL
  rw [if_neg ne]
  exact cutT_of h n
theorem of_offL {l a : Addr} {H : Hp} {o : HO} (h : offL l H a = some o) : H a = some o ∧ (∀ ps, o ≠ .tbl ps) ∧ a ≠ l := by
  unfold offL at h
  by_cases c : a = l
  · rw [if_pos c] at h
    cases h
  · rw [if_neg c] at h
    exact ⟨(of_cutT h).1, (of_cutT h).2, c⟩
theorem nt_offL {l : Addr} {H : Hp} : NT (offL l H) := fun _ _ h => (of_offL h).2.1
theorem offL_ex {l : Addr} {H : Hp} : Ex (offL l H) H := fun _ _ h => (of_offL h).1
theorem offL_self {l : Addr} {H : Hp} : offL l H l = none := if_pos rfl
theorem offL_up {l : Addr} {S H : Hp} (nt : NT S) (nl : S l = none) (e : Ex S H) : Ex S (offL l H) := fun a o h => offL_of (e a o h) (nt a o h) fun z => by
  rw [z, nl] at h
  cases h
section
variable {K : PySem.W.Frag} {A : Fv} {T : List (Addr × Str)} {σ : L2.St} {H S : Hp} {t : XK → TE} {x : Str} {D : Ends} {l : Addr} {i : Nat}
theorem s_saidN {ys : List Str} (nt : NT S) (w : Ws S T l ys H) (si : σ[i]? = some (some (.ref l))) (hn : ys.length < 40) (hm : ∀ H1, Ex S H1 → ∀ Q1 : VK, (∀ H2, Ex H1 H2 → Q1 (.str x) H2) → t (metE A Q1) σ H1 fun _ H2 => Q1 (.str "fine") H2)
    (k : ∀ H1, Ws S T l (ys ++ [x]) H1 → D.nx σ H1) : tDrop (tBM K "list" rAppend (tVar i) (tCons (tLam T (TMet A) t) tNil)) D σ H := q_saidN (tz := fun D => D.nx) nt w si hn hm k
end
def spSw (T : List (Addr × Str)) : Sp := fun vs H Q _ => ∃ v k, vs = [v] ∧ Pv (cutT H) v k ∧ Tabs T H ∧ ∀ l H', ExtN H H' → Tabs T H' → H' l = some (.lst ((List.replicate 10 ("shape" : Str)).map V.str)) → Q (.ref l) H'
section
variable {P : Program} {w : World} {K : PySem.W.Frag} {mg : Str → Option Value} {base : Heap} {CS pW cW : Addr} {A : Fv} {T : List (Addr × Str)}
abbrev sSw : Stmt := top 117
abbrev nmSw : List Str := ["none", "found", "call"]
theorem scSw : FnScope nmSw ["none"] (defScope sSw) := ⟨rfl, rfl, rfl, by decide +kernel, rfl, by decide +kernel, by decide +kernel⟩
theorem held_of {k : Nat} {x : Str} {sp : Sp} (hk : k ≤ 8) (c : ClX P w K mg base k x sp) : ∃ f, mg x = some (.ref f) ∧ HeldX P w K mg base 8 f sp := by
  obtain ⟨f, fd, ps, F, hm, kp, b⟩ := c.ex
  exact ⟨f, hm, k, fd, ps, hk, F, kp, b⟩
theorem ok_sw {f : Addr} {oc kV doc pm ct : Value} {od an : Option Addr} {osl : Array (Option Value)} (lk : K.lookup f = some ⟨oc, od, .func (PySem.W.fnOf "_law_shapes_wrong" "_law_shapes_wrong" (defArgs sSw) (defBody sSw) (defScope sSw) .none kV doc pm an (.ref cW) ct), osl⟩) (hcd : PySem.W.codeIn K (.ref cW) "_law_shapes_wrong" = true)
    (F : MF P w K mg A) (TBe : TabB base mg cW pW) (mem : (pW, (((Str.ofString "_law_shapes_wrong") ++ ".<locals>." : Str) ++ "<lambda>" : Str)) ∈ T) (uni : ∀ p ∈ T, p.1 = pW → p.2 = (((Str.ofString "_law_shapes_wrong") ++ ".<locals>." : Str) ++ "<lambda>" : Str))
    (CP : ClX P w K mg base 4 "place" (spPlc CS A.t A.p)) (C0 : ClX P w K mg base 4 "border" (spRf A.t)) (C1 : ClX P w K mg base 4 "body" (spRf A.t)) (C2 : ClX P w K mg base 4 "lines" (spRf A.t)) (C3 : ClX P w K mg base 4 "lone" (spRf A.t)) (C4 : ClX P w K mg base 4 "parts" (spRf A.t)) (C5 : ClX P w K mg base 4 "area_shapes" (spRf A.t)) (C6 : ClX P w K mg base 8 "without_holes" (spRf A.t)) (C7 : ClX P w K mg base 4 "knots" (spRf A.t)) :
    FnG P w K mg base CX0 13 f (PySem.W.fnOf "_law_shapes_wrong" "_law_shapes_wrong" (defArgs sSw) (defBody sSw) (defScope sSw) .none kV doc pm an (.ref cW) ct) ["none"] (spSw T) := by
  obtain ⟨f0, g0, x0⟩ := held_of (by decide) C0
  obtain ⟨f1, g1, x1⟩ := held_of (by decide) C1
  obtain ⟨f2, g2, x2⟩ := held_of (by decide) C2
  obtain ⟨f3, g3, x3⟩ := held_of (by decide) C3
  obtain ⟨f4, g4, x4⟩ := held_of (by decide) C4
  obtain ⟨f5, g5, x5⟩ := held_of (by decide) C5
  obtain ⟨f6, g6, x6⟩ := held_of (by decide) C6
  obtain ⟨f7, g7, x7⟩ := held_of (by decide) C7
  have held : ∀ v ∈ [V.ref f0, V.ref f1, V.ref f2, V.ref f3, V.ref f4, V.ref f5, V.ref f6, V.ref f7], ∃ g, v = V.ref g ∧ HeldX P w K mg base 8 g (spRf A.t) := fun v m => by
    simp only [List.mem_cons, List.not_mem_nil, or_false] at m
    rcases m with rfl | rfl | rfl | rfl | rfl | rfl | rfl | rfl
    · exact ⟨f0, rfl, x0⟩
    · exact ⟨f1, rfl, x1⟩
    · exact ⟨f2, rfl, x2⟩
    · exact ⟨f3, rfl, x3⟩
    · exact ⟨f4, rfl, x4⟩
    · exact ⟨f5, rfl, x5⟩
    · exact ⟨f6, rfl, x6⟩
    · exact ⟨f7, rfl, x7⟩
  refine fnG_of (N := nmSw) lk hcd scSw (fun vs H Q E h => ?_) (fun A' l s H vs Q E gd0 hr h => ?_)
  · obtain ⟨v, k, rfl, _⟩ := h
    rfl
  · obtain ⟨v, k, rfl, pv0, tabs, q⟩ := h
    have LT : LamT (cxOf CX0 P w K mg base nmSw "_law_shapes_wrong" (defScope sSw) f (.ref cW) A' l s H E).nox T cW pW := ⟨TBe, rfl, mem, uni⟩
    refine ⟨_, PSs.nox (pss_cons (ps_set (i := 1) scSw.nd rfl (Or.inl rfl) (pe_lst (pa_cons (pe_met F (by rfl) LT hr (lamS_by (sc := defScope sSw) (by decide +kernel)) rfl (fun _ _ _ _ _ => rfl) (fun B outer s H E f c2 hr2 => by exact (pe_clX CP (goes_of (W := fun cls d _ H => E cls d H) (takes_of rfl rfl rfl rfl) fun _ _ _ _ h => h) hr2 (by decide) (by rfl) (pa_cons (pv 0) (pa_cons (pe_tup (pa_cons (pe_int) (pa_cons (pe_int) (pa_cons (pe_int) pa_nil)))) pa_nil))))) pa_nil)))
      (pss_cons (ps_expr (pe_bm PySem.F.plainAttrs_list PySem.F.slot_list_append PySem.F.type_list_append mt_append (pv 1) (pa_cons (pe_met F (by rfl) LT hr (lamS_by (sc := defScope sSw) (by decide +kernel)) rfl (fun _ _ _ _ _ => rfl) (fun B outer s H E f c2 hr2 => by exact (pe_clX CP (goes_of (W := fun cls d _ H => E cls d H) (takes_of rfl rfl rfl rfl) fun _ _ _ _ h => h) hr2 (by decide) (by rfl) (pa_cons (pv 0) (pa_cons (pv 0) pa_nil))))) pa_nil)))
      (pss_cons (ps_for PassesOwn.never rfl (pi_tup (pe_tup (pa_cons (pe_glob (v := .ref f0) (by rfl) g0 rfl) (pa_cons (pe_glob (v := .ref f1) (by rfl) g1 rfl) (pa_cons (pe_glob (v := .ref f2) (by rfl) g2 rfl) (pa_cons (pe_glob (v := .ref f3) (by rfl) g3 rfl) (pa_cons (pe_glob (v := .ref f4) (by rfl) g4 rfl) (pa_cons (pe_glob (v := .ref f5) (by rfl) g5 rfl) (pa_cons (pe_glob (v := .ref f6) (by rfl) g6 rfl) (pa_cons (pe_glob (v := .ref f7) (by rfl) g7 rfl) pa_nil)))))))))) (pg_name (i := 2) scSw.nd rfl (.inr rfl))
        (pss_one (ps_expr (pe_bm PySem.F.plainAttrs_list PySem.F.slot_list_append PySem.F.type_list_append mt_append (pv 1) (pa_cons (pe_met F (by rfl) LT hr (lamS_by (sc := defScope sSw) (by decide +kernel)) rfl (fun _ _ _ _ _ => rfl) (fun B outer s H E f c2 hr2 => by exact (pe_callM (k := 8) (i := 2) (sp := spRf A.t) (M := fun g => HeldX P w K mg base 8 g (spRf A.t)) (fun _ h => h) (goes_of (W := fun cls d _ H => E cls d H) (takes_of rfl rfl rfl rfl) fun _ _ _ _ h => h) hr2 (by decide) (by rfl) (.inr (.inr rfl)) (pa_cons (pv 0) pa_nil)))) pa_nil)))))
      (pss_one (ps_ret (pv 1)))))), ?_⟩
    have nt := nt_cutT (H := H)
    dsimp only [L2.start, List.set]
    refine q_said1 (A := A) (x := "shape") nt cutT_ex tabs (fun H1 e Q1 q1 => ⟨_, rfl, (ed_tup (ds := [.int 0, .int 0, .int 1]) (da_cons (ed_int ev_c) (da_cons (ed_int ev_c) (da_cons (ed_int ev_c) da_nil))) (by show 3 ≤ 100000; decide)) H1 (Ex.refl _) _ fun u H2 e2 tu => ⟨v, u, rfl, .inl ⟨k, (pv0.mono e).mono e2, said_t fun H3 e3 => q1 H3 (e2.trans e3)⟩⟩⟩) fun F0 H1 w1 => ?_
    refine q_saidN (A := A) (x := "shape") nt w1 rfl (by show 1 < 40; decide) (fun H2 e Q1 q1 => ⟨_, rfl, _, rfl, v, v, rfl, .inl ⟨k, pv0.mono e, said_t q1⟩⟩) fun H2 w2 => ?_
    obtain ⟨nl, ex, tabs2, hl⟩ := w2
    refine ⟨by show 8 ≤ sizeLine; decide, fun p hp => ⟨p, rfl, ⟨_, SqT.of upd_same⟩, ?_⟩⟩
    have ep := Ex.new (o := .tup [V.ref f0, V.ref f1, V.ref f2, V.ref f3, V.ref f4, V.ref f5, V.ref f6, V.ref f7]) hp
    have hp3 : upd H2 p (.tup [V.ref f0, V.ref f1, V.ref f2, V.ref f3, V.ref f4, V.ref f5, V.ref f6, V.ref f7]) p = some (.tup [V.ref f0, V.ref f1, V.ref f2, V.ref f3, V.ref f4, V.ref f5, V.ref f6, V.ref f7]) := upd_same
    have ex3 := ex.trans ep
    have hl3 := ep _ _ hl
    have tabs3 := tabs2.ext ep
    generalize upd H2 p (.tup [V.ref f0, V.ref f1, V.ref f2, V.ref f3, V.ref f4, V.ref f5, V.ref f6, V.ref f7]) = H3 at hp3 ex3 hl3 tabs3 ⊢
    have nt3 := nt_offL (l := F0) (H := H3)
    have up := offL_up nt nl ex3
    have pS : offL F0 H3 p = some (.tup [V.ref f0, V.ref f1, V.ref f2, V.ref f3, V.ref f4, V.ref f5, V.ref f6, V.ref f7]) := offL_of hp3 (fun _ z => nomatch z) fun z => by
      rw [z, hl3] at hp3
      cases hp3
    refine for_it (walk_tup (K := K) (a := p) (xs := [V.ref f0, V.ref f1, V.ref f2, V.ref f3, V.ref f4, V.ref f5, V.ref f6, V.ref f7])) (fun i σ' H' => Ws (offL F0 H3) T F0 (List.replicate (2 + i) "shape") H' ∧ ∃ b, σ' = [some v, some (.ref F0), b]) ⟨⟨offL_self, offL_ex, tabs3, hl3⟩, _, rfl⟩ (fun i σ' H' _ c => SqT.of (c.1.ex _ _ pS)) (fun i x σ' H' H'' hi c y => ?_) fun σ' H' c => ?_
    · obtain ⟨rfl, hx⟩ := y
      obtain ⟨w3, b, rfl⟩ := c
      obtain ⟨g, rfl, hg⟩ := held _ (List.mem_of_getElem? hx)
      have hi8 : i < 8 := hi
      refine s_saidN (A := A) (x := "shape") (σ := [some v, some (.ref F0), some (.ref g)]) nt3 w3 rfl (by rw [List.length_replicate]; omega) (fun H4 e Q1 q1 => ⟨g, rfl, hg, _, rfl, v, rfl, k, pv0.mono (up.trans e), said_t q1⟩) fun H4 w4 => ⟨?_, _, rfl⟩
      rw [show 2 + (i + 1) = 2 + i + 1 by omega, List.replicate_succ']
      exact w4
    · obtain ⟨w3, b, rfl⟩ := c
      exact s_ret (ev_var (i := 1) rfl) fun H5 e5 => q F0 H5 (extN_of (up.trans (w3.ex.trans e5))) (w3.tabs.ext e5) (e5 _ _ w3.at_)
end
end Q
set_option Elab.async false
set_option linter.all false
set_option maxRecDepth 100000
set_option maxHeartbeats 8000000
/-! what the law asks: the menus; calls that are fine; tests that make code -/
namespace Q
open PySem L2 PySem.Spec PyProof.Rows PySem.Calls PySem.OwnX LamX LamY
open Evl
section
variable {X : Cx} {k j : Nat} {x : Str} {sp : Sp} {p pos : Pos}
theorem pe_clG0 (c : ClG X.prog X.w X.K X.mg X.base k x sp) (gd : X.A.guards = some []) (hr : Room j X.A) (hk : k ≤ j) (hg : Gl X x) (hdb : (x == ("__debug__" : Str)) = false := by decide) : PE X (.Call (.Name x p) [] [] pos) (tCall sp [] E0 tNil) := by
  obtain ⟨f, fd, ps, F, hm, kp, hb⟩ := c.ex
  constructor
  intro pins s σ H Q I h
  refine wpAny_Call_Name_kw (ld_glob I hg hm ?_ hdb)
  have h : sp ([] ++ []) H Q E0 := h
  rw [List.append_nil] at h
  refine PySem.W.callWith_K0 I.kIn kp (wpAny_call (codeAny_mono (F.go X.A X.stack s H ⟨[], []⟩ [] [] Q E0 gd (hr.mono hk) I.env0 ?_ .nil h) ?_))
  · have z := hb s [] I.kIn (by rw [List.append_nil]; exact F.few _ _ _ _ h)
    rw [List.append_nil] at z
    exact z
  · rintro (er | fl) s' z
    · exact pass0 pins σ H s er s' I z
    · cases fl with
      | ret u => exact I.after z
      | next => exact z.elim
      | brk => exact z.elim
      | cont => exact z.elim
end
/-! the menus -/
theorem fw_kids {t : Tr} (h : t.kids = []) : ∀ n, Fw n t
  | 0 => True.intro
  | n + 1 => ⟨by rw [h]; exact Nat.zero_le _, fun u m => by
    rw [h] at m
    cases m⟩
theorem sOdd {CS : Addr} : Sty (OddV CS) := fun _ _ _ e ⟨t, x, h⟩ => ⟨t, x.mono e, h⟩
theorem sRow {CS : Addr} : Sty (RowV CS) := fun _ _ _ e ⟨t, x, h⟩ => ⟨t, x.mono e, h⟩
def NonV (H : Hp) (v : V) : Prop := ∃ k, Pv H v k
def BadV (CS : Addr) (H : Hp) (v : V) : Prop := ∃ t, Tr1 CS H v t ∧ t.isPt = false
theorem sNon : Sty NonV := fun _ _ _ e ⟨k, x⟩ => ⟨k, x.mono e⟩
theorem sBad {CS : Addr} : Sty (BadV CS) := fun _ _ _ e ⟨t, x, h⟩ => ⟨t, x.mono e, h⟩
section
variable {p CS : Addr} {σ : L2.St}
abbrev tI (n : Int) : TE := tC (.int n)
abbrev t1 (a : TE) : TE := tTup (tCons a tNil)
abbrev t2 (a b : TE) : TE := tTup (tCons a (tCons b tNil))
abbrev t3 (a b c : TE) : TE := tTup (tCons a (tCons b (tCons c tNil)))
theorem ed1 {a : TE} {x : PyData} {H : Hp} (h : EvD a σ H x) : EvD (t1 a) σ H (.tuple [x]) := ed_tup (da_cons h da_nil) (show 1 ≤ 100000 by decide)
theorem ed2 {a b : TE} {x y : PyData} {H : Hp} (h : EvD a σ H x) (k : EvD b σ H y) : EvD (t2 a b) σ H (.tuple [x, y]) := ed_tup (da_cons h (da_cons k da_nil)) (show 2 ≤ 100000 by decide)
theorem ed3 {a b c : TE} {x y z : PyData} {H : Hp} (h : EvD a σ H x) (k : EvD b σ H y) (l : EvD c σ H z) : EvD (t3 a b c) σ H (.tuple [x, y, z]) := ed_tup (da_cons h (da_cons k (da_cons l da_nil))) (show 3 ≤ 100000 by decide)
theorem ed_i {n : Int} {H : Hp} : EvD (tI n) σ H (.int n) := ed_int ev_c
theorem ed_m1 {H : Hp} : EvD (tUn (rU fun i => .int (-i)) (tC (.int 1))) σ H (.int (-1)) := ed_int fun H1 e Q q => ⟨1, rfl, q H1 (Ex.refl _)⟩
theorem ed_n {H : Hp} : EvD (tC .non) σ H .none := ed_of ev_c (TDs.non .nil)
theorem ed_s {x : Str} {H : Hp} : EvD (tC (.str x)) σ H (.str x) := ed_str ev_c
theorem ed_b {b : Bool} {H : Hp} : EvD (tC (.bl b)) σ H (.bool b) := ed_bool ev_c
theorem td1 {a : PyData} {x : Tr} (h : TrD a x) : TrD (.tuple [a]) (.tup [x]) := .cons h .nil
theorem td2 {a b : PyData} {x y : Tr} (h : TrD a x) (k : TrD b y) : TrD (.tuple [a, b]) (.tup [x, y]) := .cons h (.cons k .nil)
theorem td3 {a b c : PyData} {x y z : Tr} (h : TrD a x) (k : TrD b y) (l : TrD c z) : TrD (.tuple [a, b, c]) (.tup [x, y, z]) := .cons h (.cons k (.cons l .nil))
theorem odd_i3 {H : Hp} {v : V} {a b c : Int} (x : TD1 H v (.tuple [.int a, .int b, .int c])) (h : Tr.cor (.tup [.int a, .int b, .int c]) = false) : OddV CS H v := ⟨_, tr1_of x (td3 (.int a) (.int b) (.int c)), h, rfl, fw_kids rfl 3, fw_kids rfl 2, fw_kids rfl 1⟩
theorem m_odd : EvPs p (OddV CS) (tCons (tC .non) (tCons (tI 0) (tCons (tC (.str "a")) (tCons (tTup tNil) (tCons (t1 (tI 0)) (tCons (t2 (tI 0) (tC (.str "1"))) (tCons (t2 (tI 0) (tC (.bl true))) (tCons (t3 (tI 2) (tI 2) (tI 2)) (tCons (t3 (tI 1) (tI 1) (tI 0)) (tCons (t3 (tI 1) (tI 1) (tUn (rU fun i => .int (-i)) (tC (.int 1)))) (tCons (tTup (tCons (tI 0) (tCons (tI 0) (tCons (tI 1) (tCons (tI 1) tNil))))) (tCons (tLst (tCons (tI 0) (tCons (tI 0) tNil))) (tCons (tFast tDNewK) tNil))))))))))))) σ 13 :=
  eps_cons sOdd (ep_c fun H => ⟨.non, Trs.non .nil, rfl, rfl, True.intro⟩)
  (eps_cons sOdd (ep_c fun H => ⟨.int 0, Trs.int 0 .nil, rfl, rfl, True.intro⟩)
  (eps_cons sOdd (ep_c fun H => ⟨.str "a", Trs.str "a" .nil, rfl, rfl, True.intro⟩)
  (eps_cons sOdd (ep_tup (fun H => ed_tup da_nil (by decide)) fun H v x => ⟨.tup [], tr1_of x .nil, rfl, rfl, True.intro⟩)
  (eps_cons sOdd (ep_tup (fun H => ed1 ed_i) fun H v x => ⟨_, tr1_of x (td1 (.int 0)), rfl, rfl, True.intro⟩)
  (eps_cons sOdd (ep_tup (fun H => ed2 ed_i ed_s) fun H v x => ⟨_, tr1_of x (td2 (.int 0) (.str "1")), rfl, rfl, True.intro⟩)
  (eps_cons sOdd (ep_tup (fun H => ed2 ed_i ed_b) fun H v x => ⟨_, tr1_of x (td2 (.int 0) (.bl true)), rfl, rfl, True.intro⟩)
  (eps_cons sOdd (ep_tup (fun H => ed3 ed_i ed_i ed_i) fun H v x => odd_i3 x (by decide +kernel))
  (eps_cons sOdd (ep_tup (fun H => ed3 ed_i ed_i ed_i) fun H v x => odd_i3 x (by decide +kernel))
  (eps_cons sOdd (ep_tup (fun H => ed3 ed_i ed_i ed_m1) fun H v x => odd_i3 x (by decide +kernel))
  (eps_cons sOdd (ep_tup (fun H => ed_tup (da_cons ed_i (da_cons ed_i (da_cons ed_i (da_cons ed_i da_nil)))) (show 4 ≤ 100000 by decide)) fun H v x => ⟨_, tr1_of x (.cons (.int 0) (td3 (.int 0) (.int 1) (.int 1))), rfl, rfl, True.intro⟩)
  (eps_cons sOdd (ep_lst (fun H hb Q q => q _ H (Ex.refl _) (show 2 ≤ 10 by decide)) fun H a xs h => ⟨.obj, Trs.obj (.lst h) (.inl rfl) .nil, rfl, rfl, True.intro⟩)
  (eps_cons sOdd (ep_d0 fun H a o h => ⟨.obj, Trs.obj (.dct h) (.inr rfl) .nil, rfl, rfl, True.intro⟩) eps_nil))))))))))))
theorem row_0 {t : Tr} (k : t.kids = []) (c : t.cors = false) (a : t.eachIs Tr.area = false) (p : t.eachIs Tr.piece = false) (r : t.area = false) : RowT t := ⟨c, a, p, r, fw_kids k 3, fw_kids k 2, fw_kids k 1⟩
theorem row_1 {t : Tr} (k : t.kids = []) (c : t.cor = false) (a : t.area = false) (p : t.cors = false) : RowT (.tup [t]) := ⟨by
  show (t.cor && true) = false
  rw [c]
  rfl, by
  show (t.area && true) = false
  rw [a]
  rfl, by
  show (t.piece && true) = false
  unfold Tr.piece
  rw [p]
  rfl, by
  show (decide (1 ≤ 1) && (t.ring && true)) = false
  unfold Tr.ring
  rw [p]
  rfl, fw_s (fw_kids k 2), fw_s (fw_kids k 1), fw_s (fw_kids k 0)⟩
theorem m_row : EvPs p (RowV CS) (tCons (tC .non) (tCons (tI 0) (tCons (tC (.str "ab")) (tCons (tLst tNil) (tCons (tFast tDNewK) (tCons (t1 (tI 0)) (tCons (t1 (tC .non)) (tCons (t1 (tC (.str "a"))) (tCons (tLst (tCons (t3 (t2 (tI 0) (tI 0)) (t2 (tI 1) (tI 1)) (t2 (tI 2) (tI 0))) tNil)) (tCons (tC (.bl true)) tNil)))))))))) σ 10 :=
  eps_cons sRow (ep_c fun H => ⟨.non, Trs.non .nil, row_0 rfl rfl rfl rfl rfl⟩)
  (eps_cons sRow (ep_c fun H => ⟨.int 0, Trs.int 0 .nil, row_0 rfl rfl rfl rfl rfl⟩)
  (eps_cons sRow (ep_c fun H => ⟨.str "ab", Trs.str "ab" .nil, row_0 rfl rfl rfl rfl rfl⟩)
  (eps_cons sRow (ep_lst (fun H hb Q q => q _ H (Ex.refl _) (Nat.zero_le _)) fun H a xs h => ⟨.obj, Trs.obj (.lst h) (.inl rfl) .nil, row_0 rfl rfl rfl rfl rfl⟩)
  (eps_cons sRow (ep_d0 fun H a o h => ⟨.obj, Trs.obj (.dct h) (.inr rfl) .nil, row_0 rfl rfl rfl rfl rfl⟩)
  (eps_cons sRow (ep_tup (fun H => ed1 ed_i) fun H v x => ⟨_, tr1_of x (td1 (.int 0)), row_1 rfl rfl rfl rfl⟩)
  (eps_cons sRow (ep_tup (fun H => ed1 ed_n) fun H v x => ⟨_, tr1_of x (td1 .non), row_1 rfl rfl rfl rfl⟩)
  (eps_cons sRow (ep_tup (fun H => ed1 ed_s) fun H v x => ⟨_, tr1_of x (td1 (.str "a")), row_1 rfl rfl rfl rfl⟩)
  (eps_cons sRow (ep_lst (fun H hb Q q => (ed3 (ed2 ed_i ed_i) (ed2 ed_i ed_i) (ed2 ed_i ed_i)) H (Ex.refl _) _ fun v H2 e2 tv => q [v] H2 e2 (show 1 ≤ 10 by decide)) fun H a xs h => ⟨.obj, Trs.obj (.lst h) (.inl rfl) .nil, row_0 rfl rfl rfl rfl rfl⟩)
  (eps_cons sRow (ep_c fun H => ⟨.bl true, Trs.bl true .nil, row_0 rfl rfl rfl rfl rfl⟩) eps_nil)))))))))
theorem m_non : EvPs p NonV (tCons (tC .non) (tCons (tI 0) (tCons (tC (.str "shape")) (tCons (tTup tNil) (tCons (tFast tDNewK) (tCons (tC (.bl true)) (tCons (t3 (tTup tNil) (tTup tNil) (tTup tNil)) (tCons (t3 (tI 0) (tI 0) (tI 1)) (tCons (tLst (tCons (tCall (spEmp CS) [] E0 tNil) tNil)) tNil))))))))) σ 9 :=
  eps_cons sNon (ep_c fun H => ⟨_, .non⟩)
  (eps_cons sNon (ep_c fun H => ⟨_, .int 0⟩)
  (eps_cons sNon (ep_c fun H => ⟨_, .str "shape"⟩)
  (eps_cons sNon (ep_tup (fun H => ed_tup da_nil (by decide)) fun H v x => ⟨_, pv_tup x⟩)
  (eps_cons sNon (ep_d0 fun H a o h => ⟨_, .dct h⟩)
  (eps_cons sNon (ep_c fun H => ⟨_, .bl true⟩)
  (eps_cons sNon (ep_tup (fun H => ed3 (ed_tup da_nil (by decide)) (ed_tup da_nil (by decide)) (ed_tup da_nil (by decide))) fun H v x => ⟨_, pv_tup x⟩)
  (eps_cons sNon (ep_tup (fun H => ed3 ed_i ed_i ed_i) fun H v x => ⟨_, pv_tup x⟩)
  (eps_cons sNon (ep_lst (fun H hb Q q => ⟨rfl, fun v H' e s => q [v] H' e (show 1 ≤ 10 by decide)⟩) fun H a xs h => ⟨_, .lst h⟩) eps_nil))))))))
theorem ep_emp : EvP p (BadV CS) (tCall (spEmp CS) [] E0 tNil) σ := fun H hb Q q => ⟨rfl, fun v H' e s => q v H' e (by
  obtain ⟨b, S, rfl, _, dx, f', s', m', h1, _⟩ := s
  exact ⟨.ins, Trs.ins ⟨dx, _, cutB_of h1 (fun _ z => nomatch z) (bag_ne (hb.mono e) h1 fun _ z => nomatch z)⟩ .nil, rfl⟩)⟩
theorem m_bad : EvPs p (BadV CS) (tCons (tC .non) (tCons (t2 (tI 0) (tI 0)) (tCons (t3 (tI 2) (tI 2) (tI 2)) (tCons (tC (.str "a")) (tCons (tLst (tCons (tI 0) (tCons (tI 0) (tCons (tI 1) tNil)))) (tCons (t3 (tI 0) (tI 0) (tI 0)) (tCons (t3 (tC (.bl true)) (tI 0) (tI 1)) (tCons (tCall (spEmp CS) [] E0 tNil) tNil)))))))) σ 8 :=
  eps_cons sBad (ep_c fun H => ⟨.non, Trs.non .nil, rfl⟩)
  (eps_cons sBad (ep_tup (fun H => ed2 ed_i ed_i) fun H v x => ⟨_, tr1_of x (td2 (.int 0) (.int 0)), rfl⟩)
  (eps_cons sBad (ep_tup (fun H => ed3 ed_i ed_i ed_i) fun H v x => ⟨_, tr1_of x (td3 (.int 2) (.int 2) (.int 2)), by decide +kernel⟩)
  (eps_cons sBad (ep_c fun H => ⟨.str "a", Trs.str "a" .nil, rfl⟩)
  (eps_cons sBad (ep_lst (fun H hb Q q => q _ H (Ex.refl _) (show 3 ≤ 10 by decide)) fun H a xs h => ⟨.obj, Trs.obj (.lst h) (.inl rfl) .nil, rfl⟩)
  (eps_cons sBad (ep_tup (fun H => ed3 ed_i ed_i ed_i) fun H v x => ⟨_, tr1_of x (td3 (.int 0) (.int 0) (.int 0)), by decide +kernel⟩)
  (eps_cons sBad (ep_tup (fun H => ed3 ed_b ed_i ed_i) fun H v x => ⟨_, tr1_of x (td3 (.bl true) (.int 0) (.int 1)), rfl⟩)
  (eps_cons sBad ep_emp eps_nil)))))))
end
/-! ### tests that make code -/
/-- it comes out as b; what stands in S stays -/
def EvX (S : Hp) (T : List (Addr × Str)) (t : TT) (σ : L2.St) (b : Bool) : Prop := ∀ H, Ex S H → Tabs T H → ∀ R : Bool → Hp → Prop, (∀ H', Ex S H' → Tabs T H' → R b H') → t σ H R
section
variable {K : PySem.W.Frag} {S H : Hp} {T : List (Addr × Str)} {σ : L2.St} {t u : TT} {te tb : TE} {D : Ends} {ta tz : TS} {CS : Addr} {i j n : Nat} {v w : V} {x : Str} {ds es : List PyData} {l : Addr} {xs : List V}
theorem evx_or (h1 : EvX S T t σ false) (h2 : EvX S T u σ false) : EvX S T (tOr t u) σ false := fun H e tb R q => h1 H e tb _ fun H1 e1 t1 => h2 H1 e1 t1 R q
theorem q_evx (h : EvX S T t σ false) (e : Ex S H) (tb : Tabs T H) (k : ∀ H', Ex S H' → Tabs T H' → tz D σ H') : tSeq (tIfS t ta tNext) tz D σ H := h H e tb _ fun H' e' t' => by
  show (if false = true then _ else _)
  rw [if_neg (by decide)]
  exact k H' e' t'
theorem td_strs : ∀ xs : List Str, TDs H (xs.map V.str) (xs.map PyData.str)
  | [] => .nil
  | x :: xs => .str x (td_strs xs)
/-- two lists of the same texts do not differ -/
theorem go_same {l m : Addr} {xs : List Str} {R : VK} (hl : H l = some (.lst (xs.map V.str))) (hm : ∃ ys, H m = some (.lst ys) ∧ TDs H ys (xs.map PyData.str)) (sh : SeqAt.shaped (.list (xs.map PyData.str)) = true) (lay : PyData.canLay0 (.list (xs.map PyData.str)) = true) (q : R (.bl false) H) : rNeD K (.ref l) (.ref m) H R := by
  obtain ⟨ys, h1, h2⟩ := hm
  refine ⟨.list (xs.map PyData.str), .list (xs.map PyData.str), .lst (SqL.of hl) (td_strs xs).dp, .lst (SqL.of h1) h2.dp, sh, sh, ?_⟩
  rw [SeqAt.eqv_refl _ lay]
  exact q
theorem go_eq {l m : Addr} {xs : List Str} {R : VK} (hl : H l = some (.lst (xs.map V.str))) (hm : ∃ ys, H m = some (.lst ys) ∧ TDs H ys (xs.map PyData.str)) (sh : SeqAt.shaped (.list (xs.map PyData.str)) = true) (lay : PyData.canLay0 (.list (xs.map PyData.str)) = true) (q : R (.bl true) H) : rEqD K (.ref l) (.ref m) H R := by
  obtain ⟨ys, h1, h2⟩ := hm
  refine ⟨.list (xs.map PyData.str), .list (xs.map PyData.str), .lst (SqL.of hl) (td_strs xs).dp, .lst (SqL.of h1) h2.dp, sh, sh, ?_⟩
  rw [SeqAt.eqv_refl _ lay]
  exact q
/-- words(..) != [x] * n -/
theorem evx_words (nt : NT S) (hn : n ≤ 1000) (hc : ∀ H, Ex S H → Tabs T H → ∀ Q : VK, (∀ l H', ExtN H H' → Tabs T H' → H' l = some (.lst ((List.replicate n x).map V.str)) → Q (.ref l) H') → te σ H Q) (sh : SeqAt.shaped (.list ((List.replicate n x).map PyData.str)) = true) (lay : PyData.canLay0 (.list ((List.replicate n x).map PyData.str)) = true) :
    EvX S T (tTest (tOp (rNeD K) te (tOp rRep (tLst (tCons (tC (.str x)) tNil)) (tC (.int (n : Int)))))) σ false := fun H e tb R q => by
  refine hc H e tb _ fun l H1 x1 t1 hl => ?_
  refine (eds_rep (d := .str x) (n := n) (eds_lst (da_cons (ed_str ev_c) da_nil) (show 1 ≤ 100000 by decide)) (fun H2 e2 => ev_c) (by omega)) H1 (Ex.refl _) _ fun m ys H2 nm e2 hm t2 => ?_
  have eq : List.replicate n (PyData.str x) = (List.replicate n x).map PyData.str := by rw [List.map_replicate]
  rw [eq] at t2
  exact go_same (e2 _ _ hl) ⟨ys, hm, t2⟩ sh lay ⟨false, rfl, q H2 ((nt.ext e x1).trans e2) (t1.ext e2)⟩
theorem et_same {xs : List Str} {te : TE} {i : Nat} {l : Addr} (hi : σ[i]? = some (some (.ref l))) (hl : H l = some (.lst (xs.map V.str))) (h : EvDs te σ H (xs.map PyData.str)) (sh : SeqAt.shaped (.list (xs.map PyData.str)) = true) (lay : PyData.canLay0 (.list (xs.map PyData.str)) = true) : EvT (tTest (tOp (rNeD K) (tVar i) te)) σ H false := fun H1 e Q q =>
  ⟨_, hi, h H1 e _ fun m ys H2 nm e2 hm t2 => go_same ((e.trans e2) _ _ hl) ⟨ys, hm, t2⟩ sh lay ⟨false, rfl, q H2 e2⟩⟩
theorem to_cutT (nt : NT S) (e : Ex S H) : Ex S (cutT H) := fun l o h => cutT_of (e l o h) (nt l o h)
/-- is_form(odd) is not False -/
theorem et_form (hi : σ[i]? = some (some v)) (od : OddV CS H v) : EvT (tTest (tOp rNotB (tCall (spIfo CS) [] E0 (tCons (tVar i) tNil)) (tC (.bl false)))) σ H false := by
  obtain ⟨t, x, _, nf, fw⟩ := od
  have h1 : ∀ {E : XK}, Ev (tCall (spIfo CS) [] E (tCons (tVar i) tNil)) σ H (.bl false) := fun {E} => ev_call (ea_cons (ev_var hi) ea_nil) fun H1 e Q q E => ⟨v, t, rfl, x.mono e, fw, nf, fun H2 e2 => q H2 e2⟩
  have h2 : Ev (tOp rNotB (tCall (spIfo CS) [] E0 (tCons (tVar i) tNil)) (tC (.bl false))) σ H (.bl false) := ev_op h1 ev_c fun H1 e Q q => ⟨false, false, rfl, rfl, q H1 (Ex.refl _)⟩
  exact et_test h2
end
end Q
set_option Elab.async false
set_option linter.all false
set_option maxRecDepth 100000
set_option maxHeartbeats 8000000
/-! calls that the law's turn makes -/
namespace Q
open PySem L2 PySem.Spec PyProof.Rows PySem.Calls PySem.OwnX LamX LamY
open Evl
def mP (m : Nat) : List Pt := (List.range m).map fun i : Nat => ((i : Int), 3 * (i : Int))
theorem mP_len (m : Nat) : (mP m).length = m := by simp [mP]
theorem bd_small {n : Int} (h : n.natAbs ≤ 10000) : Bd 100 n := ⟨Nat.lt_of_le_of_lt h (by decide)⟩
theorem mP_b {m : Nat} (h : m ≤ 1000) : PsB (mP m) := ⟨by rw [mP_len]; exact h, fun p hp => by
  obtain ⟨i, hi, rfl⟩ := List.mem_map.mp hp
  have := List.mem_range.mp hi
  exact ⟨bd_small (by show ((i : Int)).natAbs ≤ 10000; omega), bd_small (by show (3 * (i : Int)).natAbs ≤ 10000; omega)⟩⟩
theorem psb_ones {n : Nat} (h : n ≤ 1000) : PsB (List.replicate n ((1 : Int), (1 : Int))) := ⟨by rw [List.length_replicate]; exact h, fun p hp => by
  obtain rfl := (List.mem_replicate.mp hp).2
  exact ⟨bd_small (by decide), bd_small (by decide)⟩⟩
section
variable {K : PySem.W.Frag} {CS : Addr} {A : Fv} {σ : L2.St} {H : Hp} {i j : Nat} {v u : V} {Q1 R : VK} {t : Tr}
abbrev tPt (a b : Int) : TE := t2 (tI a) (tI b)
theorem ed_pt {a b : Int} : EvD (tPt a b) σ H (c2 (a, b)) := ed2 ed_i ed_i
theorem l_place (hi : σ[i]? = some (some v)) (b : BadV CS H v) (q1 : ∀ H2, Ex H H2 → Q1 (.str "point") H2) : tCall (spPlc CS A.t A.p) [] (metE A Q1) (tCons (tCall (spEmp CS) [] E0 tNil) (tCons (tVar i) tNil)) σ H R := ⟨rfl, fun w H2 e2 s => ⟨v, hi, w, v, rfl, .inr ⟨by
  obtain ⟨c, S, rfl, _, sh⟩ := s
  exact ⟨c, S, rfl, sh⟩, by
  obtain ⟨t, x, h⟩ := b
  exact ⟨t, x.mono e2, h⟩, said_p fun H3 e3 => q1 H3 (e2.trans e3)⟩⟩⟩
theorem l_area (q1 : ∀ H2, Ex H H2 → Q1 (.str "fine") H2) : tCallR (spAre CS A.t) (metE A Q1) (tCons (tPt 0 0) (tCons (tPt 0 0) (tCons (tPt 0 0) tNil))) σ H (fun _ H2 => Q1 (.str "fine") H2) :=
  (da_cons ed_pt (da_cons ed_pt (da_cons ed_pt da_nil))) H (Ex.refl _) _ fun vs H2 e2 x => ⟨by rw [x.len]; show 3 ≤ 1000; decide, .inr ⟨⟨3, (0, 0), x, by decide, by decide⟩, fun w H3 e3 s => q1 H3 (e2.trans e3)⟩⟩
theorem l_line (q1 : ∀ H2, Ex H H2 → Q1 (.str "fine") H2) : tCallR (spLin CS A.t) (metE A Q1) (tCons (tPt 1 1) (tCons (tPt 1 1) tNil)) σ H (fun _ H2 => Q1 (.str "fine") H2) :=
  (da_cons ed_pt (da_cons ed_pt da_nil)) H (Ex.refl _) _ fun vs H2 e2 x => ⟨by rw [x.len]; show 2 ≤ 1000; decide, .inr ⟨⟨(1, 1), x, psb_ones (n := 1) (by decide)⟩, fun w H3 e3 s => q1 H3 (e2.trans e3)⟩⟩
theorem l_shp (q1 : ∀ H2, Ex H H2 → Q1 (.str "fine") H2) : tMake CS (spSI CS A.t A.m) [] (metE A Q1) (tCons (tTup tNil) (tCons (t1 (t2 (tPt 1 1) (tPt 1 1))) (tCons (t2 (tPt 1 1) (tPt 1 1)) tNil))) σ H (fun _ H2 => Q1 (.str "fine") H2) := by
  refine go_mk3 ((ed_tup (ds := []) da_nil (by decide)) H (Ex.refl _) _ fun x H2 e2 x1 => ?_)
  refine (ed1 (ed2 ed_pt ed_pt)) H2 (Ex.refl _) _ fun y H3 e3 x2 => ?_
  refine (ed2 ed_pt ed_pt) H3 (Ex.refl _) _ fun z H4 e4 x3 => ?_
  have pts : Pts3 H4 x y z := ⟨[], [((1, 1), (1, 1))], [(1, 1), (1, 1)], ⟨(x1.mono e3).mono e4, x2.mono e4, x3, Nat.zero_le _, (fun _ m => nomatch m), (show 1 ≤ 100 by decide), (show 2 ≤ 1000 by decide)⟩, (fun _ m => nomatch m), ⟨(fun _ m => nomatch m), fun q m => by
    rcases List.mem_singleton.mp m with rfl
    rfl⟩, psb_ones (n := 3) (by decide), (show 0 + 1 + 2 ≤ 200 by decide)⟩
  exact fun a dx na ndx ne => si_go (.inr (.inr ⟨pts, fun w H5 e5 s => q1 H5 (e2.trans (e3.trans (e4.trans e5)))⟩)) a dx na ndx ne
theorem many_td (m : Nat) (h : TD1 H u (ringD (mP m))) : TD1 H u (.tuple ((mP m).map c2)) := h
theorem l_many (hi : σ[i]? = some (some u)) (h : TD1 H u (ringD (mP 201))) (q1 : ∀ H2, Ex H H2 → Q1 (.str "many 200") H2) : tMake CS (spSI CS A.t A.m) [] (metE A Q1) (tCons (tTup tNil) (tCons (tTup tNil) (tCons (tVar i) tNil))) σ H R := by
  refine go_mk3 ((ed_tup (ds := []) da_nil (by decide)) H (Ex.refl _) _ fun x H2 e2 x1 => ?_)
  refine (ed_tup (ds := []) da_nil (by decide)) H2 (Ex.refl _) _ fun y H3 e3 x2 => ⟨u, hi, ?_⟩
  have big : Big3 H3 x y u := ⟨[], [], mP 201, ⟨x1.mono e3, x2, (h.mono e2).mono e3, Nat.zero_le _, (fun _ m => nomatch m), Nat.zero_le _, by rw [mP_len]; decide⟩, (fun _ m => nomatch m), by
    show 200 < 0 + 0 + (mP 201).length
    rw [mP_len]
    decide⟩
  exact fun a dx na ndx ne => si_go (.inr (.inl ⟨big, said_m fun H4 e4 => q1 H4 (e2.trans (e3.trans e4))⟩)) a dx na ndx ne
theorem l_cat (hi : σ[i]? = some (some u)) (h : TD1 H u (ringD (mP 201))) (q1 : ∀ H2, Ex H H2 → Q1 (.str "shape") H2) : tMake CS (spSI CS A.t A.m) [] (metE A Q1) (tCons (tTup tNil) (tCons (tTup tNil) (tCons (tOp (rCatT K) (tVar i) (tTup (tCons (tC .non) tNil))) tNil))) σ H R := by
  refine go_mk3 ((ed_tup (ds := []) da_nil (by decide)) H (Ex.refl _) _ fun x H2 e2 x1 => ?_)
  refine (ed_tup (ds := []) da_nil (by decide)) H2 (Ex.refl _) _ fun y H3 e3 x2 => ⟨u, hi, ?_⟩
  refine (ed1 ed_n) H3 (Ex.refl _) _ fun w H4 e4 xw => ?_
  obtain ⟨a, xs, rfl, ha, tx⟩ := (((h.mono e2).mono e3).mono e4).tup
  obtain ⟨b, ys, rfl, hb, ty⟩ := xw.tup
  have lx := tx.len
  have ly := ty.len
  rw [List.length_map, mP_len] at lx
  have ly : ys.length = 1 := ly
  refine ⟨a, b, xs, ys, rfl, rfl, SqT.of ha, SqT.of hb, (fun z => by
    rw [z] at lx
    cases lx), sz_of (by omega), (fun z => by
    rw [z] at ly
    cases ly), fun _ r hr => ?_⟩
  have er := Ex.new (o := .tup (xs ++ ys)) hr
  have tt : TD1 (upd H4 r (.tup (xs ++ ys))) (.ref r) (.tuple ((mP 201).map c2 ++ [.none])) := TD1.mk upd_same ((tx.app ty).mono er)
  have x1' := ((x1.mono e3).mono e4).mono er
  have x2' := (x2.mono e4).mono er
  have eA := (e2.trans (e3.trans e4)).trans er
  intro k dx nk ndx ne
  have trs : ∀ ps : List Pt, TrD (.tuple (ps.map c2 ++ [.none])) (.tup (ps.map cT ++ [.non])) := fun ps => by
    induction ps with
    | nil => exact .cons .non .nil
    | cons p ps ih => exact .cons (trd_c2 p) ih
  exact si_go (.inl ⟨⟨.tup [], .tup [], .tup ((mP 201).map cT ++ [.non]), td_nil x1', td_nil x2', tr1_of tt (trs _), fw_nil 3, fw_nil 2, fw_0 (by
    rw [List.length_append, List.length_map, mP_len]
    decide), by
    show (true && (true && ((mP 201).map cT ++ [Tr.non]).all Tr.cor)) = false
    rw [List.all_append, show ([Tr.non].all Tr.cor) = false from rfl, Bool.and_false]
    rfl⟩, said_t fun H5 e5 => q1 H5 (eA.trans e5)⟩) k dx nk ndx ne
theorem l_cut (hi : σ[i]? = some (some u)) (h : TD1 H u (ringD (mP 201))) (q1 : ∀ H2, Ex H H2 → Q1 (.str "fine") H2) : tMake CS (spSI CS A.t A.m) [] (metE A Q1) (tCons (tTup tNil) (tCons (tTup tNil) (tCons (L2.tSl (rSlT K) (tVar i) (tPart (tC (.int 1))) tNoPart) tNil))) σ H (fun _ H2 => Q1 (.str "fine") H2) := by
  refine go_mk3 ((ed_tup (ds := []) da_nil (by decide)) H (Ex.refl _) _ fun x H2 e2 x1 => ?_)
  refine (ed_tup (ds := []) da_nil (by decide)) H2 (Ex.refl _) _ fun y H3 e3 x2 => ⟨u, hi, 1, rfl, ?_⟩
  obtain ⟨a, xs, rfl, ha, tx⟩ := ((h.mono e2).mono e3).tup
  have lx := tx.len
  rw [List.length_map, mP_len] at lx
  refine ⟨a, xs, rfl, SqT.of ha, (by
    rw [lx]
    decide), fun r hr => ?_⟩
  have ec : cutV xs (some 1) none = xs.drop 1 := by
    show (xs.drop (HT.sIx xs.length 0 (some 1))).take (HT.sIx xs.length xs.length none - HT.sIx xs.length 0 (some 1)) = xs.drop 1
    rw [lx]
    show (xs.drop 1).take 200 = xs.drop 1
    exact List.take_of_length_le (by rw [List.length_drop]; omega)
  rw [ec]
  have er := Ex.new (o := .tup (xs.drop 1)) hr
  obtain ⟨w0, ys, rfl, _, ty⟩ := (show TDs H3 xs (c2 (0, 0) :: ((mP 201).drop 1).map c2) from tx).inv
  have tt : TD1 (upd H3 r (.tup ys)) (.ref r) (.tuple (((mP 201).drop 1).map c2)) := TD1.mk upd_same (ty.mono er)
  have lm : ((mP 201).drop 1).length = 200 := by rw [List.length_drop, mP_len]
  intro k dx nk ndx ne
  have pts : Pts3 (upd H3 r (.tup ys)) x y (.ref r) := ⟨[], [], (mP 201).drop 1, ⟨(x1.mono e3).mono er, x2.mono er, tt, Nat.zero_le _, (fun _ m => nomatch m), Nat.zero_le _, by rw [lm]; decide⟩, (fun _ m => nomatch m), ⟨(fun _ m => nomatch m), fun _ m => nomatch m⟩, (by
    rw [List.map_nil, List.append_nil]
    exact (mP_b (m := 201) (by decide)).of (fun p m => List.mem_of_mem_drop m) (by rw [lm, mP_len]; decide)), by
    show 0 + 0 + ((mP 201).drop 1).length ≤ 200
    rw [lm]
    decide⟩
  exact si_go (.inr (.inr ⟨pts, fun w H5 e5 s => q1 H5 ((e2.trans e3).trans (er.trans e5))⟩)) k dx nk ndx ne
theorem l_odd (hi : σ[i]? = some (some v)) (hj : σ[j]? = some (some u)) (od : OddV CS H v) (h : TD1 H u (ringD (mP 201))) (q1 : ∀ H2, Ex H H2 → Q1 (.str "shape") H2) : tMake CS (spSI CS A.t A.m) [] (metE A Q1) (tCons (tTup tNil) (tCons (t1 (t2 (tVar i) (tVar i))) (tCons (tVar j) tNil))) σ H R := by
  obtain ⟨t, x, hc, _⟩ := od
  refine m_shp (b := .tup [.tup [t, t]]) (c := ringT (mP 201)) tr_nil (tr_tup (ts_cons (tr_tup (ts_cons (tr_var hi x) (ts_cons (tr_var hi x) ts_nil)) (show 2 ≤ 1000 by decide)) ts_nil) (show 1 ≤ 1000 by decide)) (tr_var hj (tr1_of h (trd_ring _))) (fw_nil 3) (fw_s (fw_0 (show 2 ≤ 1000 by decide))) (fw_0 (by
    rw [List.length_map, mP_len]
    decide)) ?_ q1
  show (true && ((Tr.piece (.tup [t, t]) && true) && _)) = false
  have z : Tr.piece (.tup [t, t]) = false := by
    show ((t.cor && (t.cor && true)) && _) = false
    rw [hc]
    rfl
  rw [z]
  rfl
theorem l_rfl (hi : σ[i]? = some (some u)) (h : TD1 H u (ringD (mP 201))) (q1 : ∀ H2, Ex H H2 → Q1 (.str "many 200") H2) : tCall (spRfl CS A.t A.m) [] (metE A Q1) (tCons (tVar i) tNil) σ H R := ⟨u, hi, u, rfl, .inr ⟨mP 201, h, by rw [mP_len]; decide, by rw [mP_len]; decide, said_m q1⟩⟩
end
end Q
set_option Elab.async false
set_option linter.all false
set_option maxRecDepth 100000
set_option maxHeartbeats 16000000
/-! the law's turn -/
namespace Q
open PySem L2 PySem.Spec PyProof.Rows PySem.Calls PySem.OwnX LamX LamY
open Evl
abbrev sRi : Stmt := top 119
def spRi (T : List (Addr × Str)) : Sp := fun vs H Q _ => ∃ p, vs = [.ref p] ∧ BagIn p H ∧ Tabs T H ∧ ∀ H', Ex (cutB p H) H' → Tabs T H' → Q (.bl true) H'
section
variable {P : Program} {w : World} {K : PySem.W.Frag} {mg : Str → Option Value} {base : Heap} {CS pR cR : Addr} {A : Fv} {T0 : List (Addr × Str)}
abbrev nmRi : List Str := ["bag", "row", "none", "told", "bad", "many", "odd", "number"]
theorem scRi : FnScope nmRi ["bag"] (defScope sRi) := ⟨rfl, rfl, rfl, by decide +kernel, rfl, by decide +kernel, by decide +kernel⟩
theorem ok_ri {f : Addr} {oc kV doc pm ct : Value} {od an : Option Addr} {osl : Array (Option Value)} (lk : K.lookup f = some ⟨oc, od, .func (PySem.W.fnOf "_law_right" "_law_right" (defArgs sRi) (defBody sRi) (defScope sRi) .none kV doc pm an (.ref cR) ct), osl⟩) (hcd : PySem.W.codeIn K (.ref cR) "_law_right" = true)
    (F : MF P w K mg A) (S : SC K mg CS) (TBe : TabB base mg cR pR) (mem : (pR, (((Str.ofString "_law_right") ++ ".<locals>." : Str) ++ "<lambda>" : Str)) ∈ T0) (uni : ∀ p ∈ T0, p.1 = pR → p.2 = (((Str.ofString "_law_right") ++ ".<locals>." : Str) ++ "<lambda>" : Str))
    (CB : Cl P w K mg base 2 "_law_one_of" spOne) (CE : Cl P w K mg base 10 "empty" (spEmp CS)) (CTw : ClG P w K mg base 16 "_law_told_wrong" (spTw CS T0)) (CRw : ClG P w K mg base 16 "_law_rows_wrong" (spRw CS T0)) (CSw : ClG P w K mg base 13 "_law_shapes_wrong" (spSw T0)) (CFw : ClG P w K mg base 16 "_law_few" (spFw T0))
    (CI : Cl P w K mg base 9 "is_form" (spIfo CS)) (CP : ClX P w K mg base 4 "place" (spPlc CS A.t A.p)) (CA : ClR P w K mg base 13 "area" (spAre CS A.t)) (CL : ClR P w K mg base 11 "line" (spLin CS A.t)) (MS : MqX P w K mg base 8 CS (spSI CS A.t A.m)) (CR : ClX P w K mg base 6 "ring_flaws" (spRfl CS A.t A.m)) :
    FnG P w K mg base CX0 17 f (PySem.W.fnOf "_law_right" "_law_right" (defArgs sRi) (defBody sRi) (defScope sRi) .none kV doc pm an (.ref cR) ct) ["bag"] (spRi T0) := by
  have T := F.T
  refine fnG_of (N := nmRi) lk hcd scRi (fun vs H Q E h => ?_) (fun A' l s H vs Q E gd0 hr h => ?_)
  · obtain ⟨p, rfl, _⟩ := h
    rfl
  · obtain ⟨p, rfl, hb, tabs, q⟩ := h
    have LT : LamT (cxOf CX0 P w K mg base nmRi "_law_right" (defScope sRi) f (.ref cR) A' l s H E).nox T0 cR pR := ⟨TBe, rfl, mem, uni⟩
    have gd : (cxOf CX0 P w K mg base nmRi "_law_right" (defScope sRi) f (.ref cR) A' l s H E).nox.A.guards = some [] := gd0
    have hu4 : (cxOf CX0 P w K mg base nmRi "_law_right" (defScope sRi) f (.ref cR) A' l s H E).nox.A.units + 64 < cLine := hr.units
    refine ⟨_, PSs.nox (pss_cons (ps_set (i := 6) scRi.nd rfl (Or.inr rfl) (pe_lst (pa_cons (pe_non) (pa_cons (pe_int) (pa_cons (pe_str) (pa_cons (pe_tup pa_nil) (pa_cons (pe_tup (pa_cons (pe_int) pa_nil)) (pa_cons (pe_tup (pa_cons (pe_int) (pa_cons (pe_str) pa_nil))) (pa_cons (pe_tup (pa_cons (pe_int) (pa_cons (pe_bl) pa_nil))) (pa_cons (pe_tup (pa_cons (pe_int) (pa_cons (pe_int) (pa_cons (pe_int) pa_nil)))) (pa_cons (pe_tup (pa_cons (pe_int) (pa_cons (pe_int) (pa_cons (pe_int) pa_nil)))) (pa_cons (pe_tup (pa_cons (pe_int) (pa_cons (pe_int) (pa_cons (pe_un un_neg pe_int) pa_nil)))) (pa_cons (pe_tup (pa_cons (pe_int) (pa_cons (pe_int) (pa_cons (pe_int) (pa_cons (pe_int) pa_nil))))) (pa_cons (pe_lst (pa_cons (pe_int) (pa_cons (pe_int) pa_nil))) (pa_cons (pe_fast pe_dnewK) pa_nil)))))))))))))))
      (pss_cons (ps_set (i := 6) scRi.nd rfl (Or.inr rfl) (pe_cl CB hr (by decide) (by rfl) (pa_cons (pv 0) (pa_cons (pv 6) pa_nil))))
      (pss_cons (ps_set (i := 1) scRi.nd rfl (Or.inl rfl) (pe_cl CB hr (by decide) (by rfl) (pa_cons (pv 0) (pa_cons (pe_lst (pa_cons (pe_non) (pa_cons (pe_int) (pa_cons (pe_str) (pa_cons (pe_lst pa_nil) (pa_cons (pe_fast pe_dnewK) (pa_cons (pe_tup (pa_cons (pe_int) pa_nil)) (pa_cons (pe_tup (pa_cons (pe_non) pa_nil)) (pa_cons (pe_tup (pa_cons (pe_str) pa_nil)) (pa_cons (pe_lst (pa_cons (pe_tup (pa_cons (pe_tup (pa_cons (pe_int) (pa_cons (pe_int) pa_nil))) (pa_cons (pe_tup (pa_cons (pe_int) (pa_cons (pe_int) pa_nil))) (pa_cons (pe_tup (pa_cons (pe_int) (pa_cons (pe_int) pa_nil))) pa_nil)))) pa_nil)) (pa_cons (pe_bl) pa_nil))))))))))) pa_nil))))
      (pss_cons (ps_set (i := 2) scRi.nd rfl (Or.inl rfl) (pe_cl CB hr (by decide) (by rfl) (pa_cons (pv 0) (pa_cons (pe_lst (pa_cons (pe_non) (pa_cons (pe_int) (pa_cons (pe_str) (pa_cons (pe_tup pa_nil) (pa_cons (pe_fast pe_dnewK) (pa_cons (pe_bl) (pa_cons (pe_tup (pa_cons (pe_tup pa_nil) (pa_cons (pe_tup pa_nil) (pa_cons (pe_tup pa_nil) pa_nil)))) (pa_cons (pe_tup (pa_cons (pe_int) (pa_cons (pe_int) (pa_cons (pe_int) pa_nil)))) (pa_cons (pe_lst (pa_cons (pe_cl0 CE hr (by decide) (by rfl)) pa_nil)) pa_nil)))))))))) pa_nil))))
      (pss_cons (ps_set (i := 4) scRi.nd rfl (Or.inr rfl) (pe_cl CB hr (by decide) (by rfl) (pa_cons (pv 0) (pa_cons (pe_lst (pa_cons (pe_non) (pa_cons (pe_tup (pa_cons (pe_int) (pa_cons (pe_int) pa_nil))) (pa_cons (pe_tup (pa_cons (pe_int) (pa_cons (pe_int) (pa_cons (pe_int) pa_nil)))) (pa_cons (pe_str) (pa_cons (pe_lst (pa_cons (pe_int) (pa_cons (pe_int) (pa_cons (pe_int) pa_nil)))) (pa_cons (pe_tup (pa_cons (pe_int) (pa_cons (pe_int) (pa_cons (pe_int) pa_nil)))) (pa_cons (pe_tup (pa_cons (pe_bl) (pa_cons (pe_int) (pa_cons (pe_int) pa_nil)))) (pa_cons (pe_cl0 CE hr (by decide) (by rfl)) pa_nil))))))))) pa_nil))))
      (pss_cons (ps_if (pw_or (pt_cmpR (op_neD hu4) (pe_clG CTw gd hr (by decide) (by rfl) (pa_cons (pv 6) pa_nil)) (pe_op op_rep (pe_lst (pa_cons (pe_str) pa_nil)) pe_int) (nomark _)) (pw_or1 (pt_cmpR (op_neD hu4) (pe_clG CRw gd hr (by decide) (by rfl) (pa_cons (pv 1) pa_nil)) (pe_op op_rep (pe_lst (pa_cons (pe_str) pa_nil)) pe_int) (nomark _)))).pt (pss_one (ps_ret pe_bl)) pss_nil)
      (pss_cons (ps_if (pw_or (pt_cmpR (op_neD hu4) (pe_clG CSw gd hr (by decide) (by rfl) (pa_cons (pv 2) pa_nil)) (pe_op op_rep (pe_lst (pa_cons (pe_str) pa_nil)) pe_int) (nomark _)) (pw_or1 (pt_cmpR (op_neD hu4) (pe_clG0 CFw gd hr (by decide) (by rfl)) (pe_op op_rep (pe_lst (pa_cons (pe_str) pa_nil)) pe_int) (nomark _)))).pt (pss_one (ps_ret pe_bl)) pss_nil)
      (pss_cons (ps_set (i := 3) scRi.nd rfl (Or.inl rfl) (pe_lst (pa_cons (pe_met F (by rfl) LT hr (lamS_by (sc := defScope sRi) (by decide +kernel)) rfl (fun _ _ _ _ _ => rfl) (fun B outer s H E f c2 hr2 => by exact (pe_clX CP (goes_of (W := fun cls d _ H => E cls d H) (takes_of rfl rfl rfl rfl) fun _ _ _ _ h => h) hr2 (by decide) (by rfl) (pa_cons (pe_cl0 CE hr2 (by decide) (by rfl)) (pa_cons (pv 4) pa_nil))))) pa_nil)))
      (pss_cons (ps_expr (pe_bm PySem.F.plainAttrs_list PySem.F.slot_list_append PySem.F.type_list_append mt_append (pv 3) (pa_cons (pe_met F (by rfl) LT hr (lamS_by (sc := defScope sRi) (by decide +kernel)) rfl (fun _ _ _ _ _ => rfl) (fun B outer s H E f c2 hr2 => by exact (pe_clR CA (goes_of (W := fun cls d _ H => E cls d H) (takes_of rfl rfl rfl rfl) fun _ _ _ _ h => h) hr2 (by decide) (by rfl) (pa_cons (pe_tup (pa_cons (pe_int) (pa_cons (pe_int) pa_nil))) (pa_cons (pe_tup (pa_cons (pe_int) (pa_cons (pe_int) pa_nil))) (pa_cons (pe_tup (pa_cons (pe_int) (pa_cons (pe_int) pa_nil))) pa_nil)))))) pa_nil)))
      (pss_cons (ps_expr (pe_bm PySem.F.plainAttrs_list PySem.F.slot_list_append PySem.F.type_list_append mt_append (pv 3) (pa_cons (pe_met F (by rfl) LT hr (lamS_by (sc := defScope sRi) (by decide +kernel)) rfl (fun _ _ _ _ _ => rfl) (fun B outer s H E f c2 hr2 => by exact (pe_clR CL (goes_of (W := fun cls d _ H => E cls d H) (takes_of rfl rfl rfl rfl) fun _ _ _ _ h => h) hr2 (by decide) (by rfl) (pa_cons (pe_tup (pa_cons (pe_int) (pa_cons (pe_int) pa_nil))) (pa_cons (pe_tup (pa_cons (pe_int) (pa_cons (pe_int) pa_nil))) pa_nil))))) pa_nil)))
      (pss_cons (ps_expr (pe_bm PySem.F.plainAttrs_list PySem.F.slot_list_append PySem.F.type_list_append mt_append (pv 3) (pa_cons (pe_met F (by rfl) LT hr (lamS_by (sc := defScope sRi) (by decide +kernel)) rfl (fun _ _ _ _ _ => rfl) (fun B outer s H E f c2 hr2 => by exact (pe_mqX MS (goes_of (W := fun cls d _ H => E cls d H) (takes_of rfl rfl rfl rfl) fun _ _ _ _ h => h) hr2 (by decide) (by rfl) S.g (pa_cons (pe_tup pa_nil) (pa_cons (pe_tup (pa_cons (pe_tup (pa_cons (pe_tup (pa_cons (pe_int) (pa_cons (pe_int) pa_nil))) (pa_cons (pe_tup (pa_cons (pe_int) (pa_cons (pe_int) pa_nil))) pa_nil))) pa_nil)) (pa_cons (pe_tup (pa_cons (pe_tup (pa_cons (pe_int) (pa_cons (pe_int) pa_nil))) (pa_cons (pe_tup (pa_cons (pe_int) (pa_cons (pe_int) pa_nil))) pa_nil))) pa_nil)))))) pa_nil)))
      (pss_cons (ps_if (pw_or (pt_cmpR (op_neD hu4) (pv 3) (pe_lst (pa_cons (pe_str) (pa_cons (pe_str) (pa_cons (pe_str) (pa_cons (pe_str) pa_nil))))) (nomark _)) (pw_or1 (pt_cmpR op_notBl (pe_cl CI hr (by decide) (by rfl) (pa_cons (pv 6) pa_nil)) pe_bl (nomark _)))).pt (pss_one (ps_ret pe_bl)) pss_nil)
      (pss_cons (ps_set (i := 5) scRi.nd rfl (Or.inr rfl) (pe_callTy call_tuple_of (by rfl) T.tuple (by decide +kernel) (pa_cons (pe_lc (own := [("number", 7)]) (g := gName 7) (by rfl) scRi.nd (pi_range1 (by rfl) T.range (pa_cons (pe_int) pa_nil))
        (blkOk_by (own := [("number", 7)]) (N := nmRi) (sc := defScope sRi) (by decide +kernel))
        (fun _ _ _ _ _ => by exact (pg_name (i := 7) scRi.nd rfl (Or.inl rfl))) (fun _ _ _ _ _ => pts_nil)
        (te := (tTup (tCons (tVar 7) (tCons (tOp (rI CMul fun i j => .int (i * j)) (tC (.int 3)) (tVar 7)) tNil)))) (fun _ _ _ _ _ => by exact (pe_tup (by exact (pa_cons (pv 7) (pa_cons (pe_op op_mul pe_int (pv 7)) pa_nil)))))) pa_nil)))
      (pss_cons (ps_set (i := 3) scRi.nd rfl (Or.inl rfl) (pe_lst (pa_cons (pe_met F (by rfl) LT hr (lamS_by (sc := defScope sRi) (by decide +kernel)) rfl (fun _ _ _ _ _ => rfl) (fun B outer s H E f c2 hr2 => by exact (pe_mqX MS (goes_of (W := fun cls d _ H => E cls d H) (takes_of rfl rfl rfl rfl) fun _ _ _ _ h => h) hr2 (by decide) (by rfl) S.g (pa_cons (pe_tup pa_nil) (pa_cons (pe_tup pa_nil) (pa_cons (pv 5) pa_nil)))))) pa_nil)))
      (pss_cons (ps_expr (pe_bm PySem.F.plainAttrs_list PySem.F.slot_list_append PySem.F.type_list_append mt_append (pv 3) (pa_cons (pe_met F (by rfl) LT hr (lamS_by (sc := defScope sRi) (by decide +kernel)) rfl (fun _ _ _ _ _ => rfl) (fun B outer s H E f c2 hr2 => by exact (pe_mqX MS (goes_of (W := fun cls d _ H => E cls d H) (takes_of rfl rfl rfl rfl) fun _ _ _ _ h => h) hr2 (by decide) (by rfl) S.g (pa_cons (pe_tup pa_nil) (pa_cons (pe_tup pa_nil) (pa_cons (pe_op (show OpR _ _ (rCatT K) from op_catT) (pv 5) (pe_tup (pa_cons (pe_non) pa_nil))) pa_nil)))))) pa_nil)))
      (pss_cons (ps_expr (pe_bm PySem.F.plainAttrs_list PySem.F.slot_list_append PySem.F.type_list_append mt_append (pv 3) (pa_cons (pe_met F (by rfl) LT hr (lamS_by (sc := defScope sRi) (by decide +kernel)) rfl (fun _ _ _ _ _ => rfl) (fun B outer s H E f c2 hr2 => by exact (pe_mqX MS (goes_of (W := fun cls d _ H => E cls d H) (takes_of rfl rfl rfl rfl) fun _ _ _ _ h => h) hr2 (by decide) (by rfl) S.g (pa_cons (pe_tup pa_nil) (pa_cons (pe_tup pa_nil) (pa_cons (pe_slice (show SlR _ (rSlT K) from sl_tup) (pv 5) (po_some pe_int) po_none) pa_nil)))))) pa_nil)))
      (pss_cons (ps_expr (pe_bm PySem.F.plainAttrs_list PySem.F.slot_list_append PySem.F.type_list_append mt_append (pv 3) (pa_cons (pe_met F (by rfl) LT hr (lamS_by (sc := defScope sRi) (by decide +kernel)) rfl (fun _ _ _ _ _ => rfl) (fun B outer s H E f c2 hr2 => by exact (pe_mqX MS (goes_of (W := fun cls d _ H => E cls d H) (takes_of rfl rfl rfl rfl) fun _ _ _ _ h => h) hr2 (by decide) (by rfl) S.g (pa_cons (pe_tup pa_nil) (pa_cons (pe_tup (pa_cons (pe_tup (pa_cons (pv 6) (pa_cons (pv 6) pa_nil))) pa_nil)) (pa_cons (pv 5) pa_nil)))))) pa_nil)))
      (pss_one (ps_ret (pe_cmpR (op_eqD hu4) (pe_op op_cat (pv 3) (pe_lst (pa_cons (pe_met F (by rfl) LT hr (lamS_by (sc := defScope sRi) (by decide +kernel)) rfl (fun _ _ _ _ _ => rfl) (fun B outer s H E f c2 hr2 => by exact (pe_clX CR (goes_of (W := fun cls d _ H => E cls d H) (takes_of rfl rfl rfl rfl) fun _ _ _ _ h => h) hr2 (by decide) (by rfl) (pa_cons (pv 5) pa_nil)))) pa_nil))) (pe_lst (pa_cons (pe_str) (pa_cons (pe_str) (pa_cons (pe_str) (pa_cons (pe_str) (pa_cons (pe_str) pa_nil)))))) (nomark _))))))))))))))))))))), ?_⟩
    dsimp only [L2.start, List.set]
    -- odd
    refine q_asgQ (go_menu (m_odd (p := p) (CS := CS)) (by decide) hb (fun L vs H1 e1 hL nL ln al => ?_) sOdd)
    try dsimp only [List.set]
    have hb1 := hb.mono e1
    refine q_asgQ (go_oneL (i := 0) rfl (ev_var (i := 6) rfl) hL nL (by decide) (by decide) ln al sOdd hb1 fun v6 S1 H2 g2 u2 k6 => ?_)
    try dsimp only [List.set]
    have hbS1 := hb1.mono u2
    have hb2 : BagIn p H2 := g2.bag
    have tabs2 := tabs_bgd hbS1 g2 ((tabs.ext e1).ext u2)
    have x2 : Ex (cutB p H) H2 := Bgd.cut (cut_self.trans (e1.trans u2)) g2
    have y6 : Ex (cutB p S1) H2 := cut_bgd g2
    -- row
    refine q_asgQ (go_oneN (i := 0) rfl (m_row (p := p) (CS := CS)) (by decide) (by decide) sRow hb2 fun v1 S2 H3 g3 u3 k1 => ?_)
    try dsimp only [List.set]
    have hbS2 := hb2.mono u3
    have hb3 : BagIn p H3 := g3.bag
    have tabs3 := tabs_bgd hbS2 g3 (tabs2.ext u3)
    have x3 : Ex (cutB p H) H3 := Bgd.cut (x2.trans u3) g3
    have y6 : Ex (cutB p S1) H3 := Bgd.cut (y6.trans u3) g3
    have y1 : Ex (cutB p S2) H3 := cut_bgd g3
    -- none
    refine q_asgQ (go_oneN (i := 0) rfl (m_non (p := p) (CS := CS)) (by decide) (by decide) sNon hb3 fun v2 S3 H4 g4 u4 k2 => ?_)
    try dsimp only [List.set]
    have hbS3 := hb3.mono u4
    have hb4 : BagIn p H4 := g4.bag
    have tabs4 := tabs_bgd hbS3 g4 (tabs3.ext u4)
    have x4 : Ex (cutB p H) H4 := Bgd.cut (x3.trans u4) g4
    have y6 : Ex (cutB p S1) H4 := Bgd.cut (y6.trans u4) g4
    have y1 : Ex (cutB p S2) H4 := Bgd.cut (y1.trans u4) g4
    have y2 : Ex (cutB p S3) H4 := cut_bgd g4
    -- bad
    refine q_asgQ (go_oneN (i := 0) rfl (m_bad (p := p) (CS := CS)) (by decide) (by decide) sBad hb4 fun v4 S4 H5 g5 u5 k4 => ?_)
    try dsimp only [List.set]
    have hbS4 := hb4.mono u5
    have tabs5 := tabs_bgd hbS4 g5 (tabs4.ext u5)
    have xB : Ex (cutB p H) (cutB p H5) := cut_cut (Bgd.cut (x4.trans u5) g5)
    have od : OddV CS (cutB p H5) v6 := sOdd _ _ _ (cut_cut (Bgd.cut (y6.trans u5) g5)) k6
    have rw_ : RowV CS (cutB p H5) v1 := sRow _ _ _ (cut_cut (Bgd.cut (y1.trans u5) g5)) k1
    have nn : NonV (cutB p H5) v2 := sNon _ _ _ (cut_cut (Bgd.cut (y2.trans u5) g5)) k2
    have bd : BadV CS (cutB p H5) v4 := sBad _ _ _ (cut_cut (cut_bgd g5)) k4
    have nt : NT (cutB p H5) := nt_cut
    have eB : Ex (cutB p H5) H5 := cut_self
    clear al hL k6 k1 k2 k4 y6 y1 y2 x2 x3 x4 g2 g3 g4 g5 u2 u3 u4 u5 e1 hbS1 hbS2 hbS3 hbS4 hb1 hb2 hb3 hb4 tabs2 tabs3 tabs4
    generalize cutB p H5 = B at xB od rw_ nn bd nt eB
    obtain ⟨kn, pn⟩ := nn
    -- the words of what is wrong
    refine q_evx (evx_or (evx_words (n := 8) nt (by decide) (fun H e tb Q q => ⟨_, rfl, v6, rfl, sOdd _ _ _ (to_cutT nt e) od, tb, q⟩) (by decide +kernel) (by decide +kernel)) (evx_words (n := 7) nt (by decide) (fun H e tb Q q => ⟨_, rfl, v1, rfl, sRow _ _ _ (to_cutT nt e) rw_, tb, q⟩) (by decide +kernel) (by decide +kernel))) eB tabs5 fun H6 e6 tabs6 => ?_
    refine q_evx (evx_or (evx_words (n := 10) nt (by decide) (fun H e tb Q q => ⟨_, rfl, v2, kn, rfl, pn.mono (to_cutT nt e), tb, q⟩) (by decide +kernel) (by decide +kernel)) (evx_words (n := 8) nt (by decide) (fun H e tb Q q => ⟨rfl, tb, q⟩) (by decide +kernel) (by decide +kernel))) e6 tabs6 fun H7 e7 tabs7 => ?_
    -- told
    refine q_said1 (A := A) (x := "point") nt e7 tabs7 (fun H1 e Q1 q1 => l_place rfl (sBad _ _ _ e bd) q1) fun l3 H8 w8 => ?_
    refine q_saidN (A := A) (x := "fine") nt w8 rfl (by show 1 < 40; decide) (fun H1 e Q1 q1 => l_area q1) fun H9 w9 => ?_
    refine q_saidN (A := A) (x := "fine") nt w9 rfl (by show 2 < 40; decide) (fun H1 e Q1 q1 => l_line q1) fun H10 w10 => ?_
    refine q_saidN (A := A) (x := "fine") nt w10 rfl (by show 3 < 40; decide) (fun H1 e Q1 q1 => l_shp q1) fun H11 w11 => ?_
    obtain ⟨_, eB11, tabs11, hl11⟩ := w11
    refine q_not (et_is (et_or (et_same (xs := ["point", "fine", "fine", "fine"]) (i := 3) rfl hl11 (eds_lst (da_cons ed_s (da_cons ed_s (da_cons ed_s (da_cons ed_s da_nil)))) (show 4 ≤ 100000 by decide)) (by decide +kernel) (by decide +kernel)) fun _ => et_form (i := 6) rfl (sOdd _ _ _ eB11 od)) rfl) fun H12 e12 => ?_
    have eB12 := eB11.trans e12
    have tabs12 := tabs11.ext e12
    -- many
    refine q_asgQ (go_cb1 ((eds_it (te := t2 (tVar 7) (tOp (rI CMul fun i j => .int (i * j)) (tC (.int 3)) (tVar 7))) (tt := tYes) (vs := [7]) (g := gName 7) (enc := fun i : Nat => .int (i : Int)) (es := List.range 201) (fun _ => true) (fun i => c2 ((i : Int), 3 * (i : Int))) (ei_rng (m := 201) (ea_cons ev_c ea_nil) (by decide)) (by rw [List.length_range]; decide) fun i hi => turn_nm (fun _ => rfl) (fun _ _ _ _ => et_yes) fun v H8 e8 xv _ => ?t1) H12 (Ex.refl _) _ fun l8 ys8 H13 n8 e13 hl8 t8 => ?_))
    case t1 =>
      cases xv.int
      exact ed2 (ed_int (ev_var (i := 7) rfl)) (ed_int (ev_op ev_c (ev_var (i := 7) rfl) (rv_I (.inl ⟨by decide, by decide⟩))))
    rw [filt_all] at t8
    have t8' : TDs H13 ys8 ((mP 201).map c2) := by
      unfold mP
      rw [List.map_map]
      exact t8
    refine ⟨l8, ys8, rfl, .inl ⟨SqL.of hl8, fun t9 ht9 => ?_⟩⟩
    have e14 := e13.trans (Ex.new (o := .tup ys8) ht9)
    have tm : TD1 (upd H13 t9 (.tup ys8)) (.ref t9) (ringD (mP 201)) := TD1.mk upd_same (t8'.mono (Ex.new ht9))
    have eB14 := eB12.trans e14
    have tabs14 := tabs12.ext e14
    generalize upd H13 t9 (.tup ys8) = H14 at tm eB14 tabs14 e14 ⊢
    try dsimp only [List.set]
    have nt2 := nt_cutT (H := H14)
    have eC : Ex B (cutT H14) := to_cutT nt eB14
    have od2 := sOdd _ _ _ eC od
    have tm2 : TD1 (cutT H14) (.ref t9) (ringD (mP 201)) := tm.by fun a ys h => cutT_of h fun _ z => nomatch z
    refine q_said1 (A := A) (x := "many 200") nt2 cutT_ex tabs14 (fun H1 e Q1 q1 => l_many (i := 5) rfl (tm2.mono e) q1) fun F0 H15 w15 => ?_
    refine q_saidN (A := A) (x := "shape") nt2 w15 rfl (by show 1 < 40; decide) (fun H1 e Q1 q1 => l_cat (i := 5) rfl (tm2.mono e) q1) fun H16 w16 => ?_
    refine q_saidN (A := A) (x := "fine") nt2 w16 rfl (by show 2 < 40; decide) (fun H1 e Q1 q1 => l_cut (i := 5) rfl (tm2.mono e) q1) fun H17 w17 => ?_
    refine q_saidN (A := A) (x := "shape") nt2 w17 rfl (by show 3 < 40; decide) (fun H1 e Q1 q1 => l_odd (i := 6) (j := 5) rfl rfl (sOdd _ _ _ e od2) (tm2.mono e) q1) fun H18 w18 => ?_
    obtain ⟨nl, ex, tabs18, hl⟩ := w18
    refine s_retQ ⟨_, rfl, go_lst1 (go_lam (A := A) (x := "many 200") tabs18 (fun H19 e19 Q1 q1 => l_rfl (i := 5) rfl (tm2.mono (nt2.ext ex e19)) q1) fun H19 e19 t19 => ⟨by decide, fun m hm => ?_⟩)⟩
    have hl19 := e19 _ _ hl fun _ z => nomatch z
    have em := Ex.new (o := .lst [.str "many 200"]) hm
    refine ⟨F0, m, _, _, rfl, rfl, em _ _ hl19, upd_same, by show 5 ≤ sizeLine; decide, fun r hr => ?_⟩
    have er := Ex.new (o := .lst ((["many 200", "shape", "fine", "shape"] : List Str).map V.str ++ [V.str "many 200"])) hr
    refine (eds_lst (ds := (["many 200", "shape", "fine", "shape", "many 200"] : List Str).map PyData.str) (da_cons ed_s (da_cons ed_s (da_cons ed_s (da_cons ed_s (da_cons ed_s da_nil))))) (show 5 ≤ 100000 by decide)) _ (Ex.refl _) _ fun m2 ys H20 nm e20 hm2 t2 => ?_
    refine go_eq (xs := ["many 200", "shape", "fine", "shape", "many 200"]) (e20 _ _ upd_same) ⟨ys, hm2, t2⟩ (by decide +kernel) (by decide +kernel) ?_
    have eZ := ((nt2.ext ex e19).trans em).trans (er.trans e20)
    exact q H20 (xB.trans (eC.trans eZ)) (((t19.ext em).ext er).ext e20)
end
end Q
set_option Elab.async false
set_option linter.all false
set_option maxRecDepth 100000
set_option maxHeartbeats 8000000
/-! the law -/
namespace Q
open PySem L2 PySem.Spec PyProof.Rows PySem.Calls PySem.OwnX LamX LamY
open Evl
abbrev sLaw : Stmt := top 120
abbrev sL : Stmt := sLaw
abbrev nmL : List Str := ["script", "at"]
theorem scL : FnScope nmL ["script"] (defScope sLaw) := ⟨rfl, rfl, rfl, by decide +kernel, rfl, by decide +kernel, by decide +kernel⟩
abbrev qT : Str := (((Str.ofString "_law_told_wrong") ++ ".<locals>." : Str) ++ "<lambda>" : Str)
abbrev qO : Str := (((Str.ofString "_law_rows_wrong") ++ ".<locals>." : Str) ++ "<lambda>" : Str)
abbrev qS : Str := (((Str.ofString "_law_shapes_wrong") ++ ".<locals>." : Str) ++ "<lambda>" : Str)
abbrev qF : Str := (((Str.ofString "_law_few") ++ ".<locals>." : Str) ++ "<lambda>" : Str)
abbrev qR : Str := (((Str.ofString "_law_right") ++ ".<locals>." : Str) ++ "<lambda>" : Str)
abbrev lamT (pT pO pS pF pR : Addr) : List (Addr × Str) := [(pT, qT), (pO, qO), (pS, qS), (pF, qF), (pR, qR)]
theorem lam_u {a : Addr} {q : Str} : ∀ {ts : List (Addr × Str)}, (ts.map Prod.fst).Nodup → (a, q) ∈ ts → ∀ p ∈ ts, p.1 = a → p.2 = q
  | [], _, m, _, _, _ => nomatch m
  | t :: ts, nd, m, p, hp, e => by
    rw [List.map_cons, List.nodup_cons] at nd
    rcases List.mem_cons.mp m with m' | m'
    · rcases List.mem_cons.mp hp with hp' | hp'
      · rw [hp', ← m']
      · have z := List.mem_map_of_mem (f := Prod.fst) hp'
        rw [e] at z
        rw [← m'] at nd
        exact absurd z nd.1
    · rcases List.mem_cons.mp hp with hp' | hp'
      · have z := List.mem_map_of_mem (f := Prod.fst) m'
        rw [hp'] at e
        rw [e] at nd
        exact absurd z nd.1
      · exact lam_u nd.2 m' p hp' e
theorem sql_ext {K : PySem.W.Frag} {H H' : Hp} {a : Addr} {xs : List V} (e : ExtN H H') (h : SqL K H a xs) : SqL K H' a xs := by
  rcases h with (h | ⟨o, h⟩) | h
  · exact .inl (.inl (e _ _ h fun _ z => nomatch z))
  · exact .inl (.inr ⟨o, e _ _ h fun _ z => nomatch z⟩)
  · exact .inr h
section
variable {σ : L2.St} {H : Hp}
/-- a test that comes out so, whatever it does to the heap -/
theorem s_ifG {t : TT} {ta tb : TS} {b : Bool} {D : Ends} {PV : Hp → Prop} (h : ∀ R : Bool → Hp → Prop, (∀ H', PV H' → R b H') → t σ H R) (k : ∀ H', PV H' → (if b = true then ta D σ H' else tb D σ H')) : tIfS t ta tb D σ H := h _ k
end
def spLaw (K : PySem.W.Frag) (pT pO pS pF pR : Addr) : Sp := fun vs H Q _ => ∃ (a : Addr) (ns : List Int), vs = [.ref a] ∧ SqL K H a (ns.map V.int) ∧ ns.length ≤ 63 ∧ Tabs (lamT pT pO pS pF pR) H ∧ ∀ H', Q (.bl true) H'
section
variable {P : Program} {w : World} {K : PySem.W.Frag} {mg : Str → Option Value} {base : Heap} {pT pO pS pF pR : Addr}
theorem ok_law {f : Addr} {oc kV doc pm cd ct : Value} {od an : Option Addr} {osl : Array (Option Value)} (lk : K.lookup f = some ⟨oc, od, .func (PySem.W.fnOf "law" "law" (defArgs sLaw) (defBody sLaw) (defScope sLaw) .none kV doc pm an cd ct), osl⟩) (hcd : PySem.W.codeIn K cd "law" = true)
    (T : TN mg) (CB : Cl P w K mg base 1 "_law_bag" (spBag K)) (CR : ClG P w K mg base 17 "_law_right" (spRi (lamT pT pO pS pF pR))) :
    FnG P w K mg base CX0 18 f (PySem.W.fnOf "law" "law" (defArgs sLaw) (defBody sLaw) (defScope sLaw) .none kV doc pm an cd ct) ["script"] (spLaw K pT pO pS pF pR) := by
  refine fnG_of (N := nmL) lk hcd scL (fun vs H Q E h => ?_) (fun A' l s H vs Q E gd0 hr h => ?_)
  · obtain ⟨a, ns, rfl, _⟩ := h
    rfl
  · obtain ⟨sa, ns, rfl, hS, hlen, tabs, q⟩ := h
    have gd : (cxOf CX0 P w K mg base nmL "law" (defScope sLaw) f cd A' l s H E).nox.A.guards = some [] := gd0
    refine ⟨_, PSs.nox (pss_cons (ps_for PassesOwn.never rfl (pi_range1 rfl T.range (pa_cons (pe_callB (call_max2 rfl) (by rfl) T.max (by decide +kernel) (pa_cons (pe_int) (pa_cons (pe_callB (call_min2 rfl) (by rfl) T.min (by decide +kernel) (pa_cons (pe_int) (pa_cons (pe_callB call_len_seq (by rfl) T.len PySem.boot_len (pa_cons (pv 0) pa_nil)) pa_nil))) pa_nil))) pa_nil)) (pg_name (i := 1) scL.nd rfl (Or.inl rfl))
        (pss_one (ps_if (pt_not (pt_val (pe_clG CR gd hr (by decide) (by rfl) (pa_cons (pe_cl CB hr (by decide) (by rfl) (pa_cons (pv 0) (pa_cons (pv 1) pa_nil))) pa_nil)))) (pss_one (ps_ret pe_bl)) pss_nil)))
      (pss_one (ps_ret pe_bl))), ?_⟩
    refine q_forR1 (n := max 1 (min 4 (ns.length : Int))) (ea_cons (ev_max2' ev_c (ev_min2 ev_c (ev_is (ev_len (ev_var (i := 0) rfl) hS) (by rw [List.length_map])))) ea_nil) ⟨by omega, by omega⟩ (fun i σ' H' => ExtN H H' ∧ Tabs (lamT pT pO pS pF pR) H' ∧ ∃ r1 : Option V, σ' = [some (.ref sa), r1])
      (fun H' e => ⟨ex_extN e, tabs.ext e, none, rfl⟩) (fun i σ' H4 hi hP => ?_) (fun σ' H4 hP => ?_)
    · obtain ⟨x4, tabs4, r1, rfl⟩ := hP
      have hS4 := sql_ext x4 hS
      dsimp only [List.set]
      refine s_ifG (PV := fun H' => ExtN H4 H' ∧ Tabs (lamT pT pO pS pF pR) H') (b := false) (fun R hR => ?_) fun H' hP => ?_
      · refine ⟨_, rfl, _, rfl, sa, ns, i, rfl, hS4, by omega, fun p H5 np sm hbag => ⟨p, rfl, hbag, tabs4.ext sm, fun H6 e6 tabs6 => ⟨true, rfl, hR H6 ⟨fun l o h n => e6 _ _ (cutB_of (sm _ _ h) n fun z => by rw [z, np] at h; cases h), tabs6⟩⟩⟩⟩
      · rw [if_neg (by decide)]
        exact ⟨x4.trans hP.1, hP.2, _, rfl⟩
    · exact s_ret ev_c fun H5 e5 => q H5
end
end Q
set_option Elab.async false
set_option linter.all false
set_option maxRecDepth 100000
set_option maxHeartbeats 2000000
/-! a law's end by a promise that asks that nothing is being shown, code tables held -/
namespace L2
open PySem PySem.Spec PyProof.Rows LamX
/-- the ground with the script (or nothing) at a and the tables ts -/
structure FewAt (K : PySem.W.Frag) (h : Heap) (H : Hp) (a : Addr) (ts : List Addr) : Prop where
  only : ∀ b, H b ≠ none → b = a ∨ b ∈ ts
  own : H a ≠ none → K.lookup a = none
  tab : ∀ b ∈ ts, h.get? b = some { cls := .none, data := .fields #[] } ∧ K.lookup b = none
  has : ∀ b ∈ ts, H b = some (.tbl #[])
section
variable {P : Program} {w : World} {K : PySem.W.Frag} {mg mb : Str → Option Value} {h : Heap} {H : Hp} {a : Addr} {ts : List Addr} {vs : List Value}
theorem FewAt.free (o : FewAt K h H a ts) (ha : h.get? a = some { cls := .type "list", data := .seq vs.toArray }) {b : Addr} {u : Obj} (e : h.get? b = some u) (n1 : u.cls ≠ .type "list") (n2 : u.cls ≠ .none) : H b = none := by
  by_cases z : H b = none
  · exact z
  · rcases o.only b z with q | q
    · rw [q, ha] at e
      cases e
      exact absurd rfl n1
    · rw [(o.tab b q).1] at e
      cases e
      exact absurd rfl n2
theorem FewAt.freeD (o : FewAt K h H a ts) (ha : h.get? a = some { cls := .type "list", data := .seq vs.toArray }) {b : Addr} {u : Obj} {es : Array DictEntry} {n : Nat} (e : h.get? b = some u) (d : u.data = .dict es n) : H b = none := by
  by_cases z : H b = none
  · exact z
  · rcases o.only b z with q | q
    · rw [q, ha] at e
      cases e
      cases d
    · rw [(o.tab b q).1] at e
      cases e
      cases d
theorem FewAt.ns (o : FewAt K h H a ts) (ha : h.get? a = some { cls := .type "list", data := .seq vs.toArray }) {b : Addr} {m : Str → Option Value} : h.Ns b m → (hidT h H).Ns b m := by
  rintro ⟨u, es, n, e, d, r⟩
  exact ⟨u, es, n, hidT_get e (o.freeD ha e d), d, r⟩
theorem FewAt.kin (o : FewAt K h H a ts) (kin : K.In h) : K.In (hidT h H) := by
  intro b u e
  refine hidT_get (kin b u e) ?_
  by_cases z : H b = none
  · exact z
  · rcases o.only b z with q | q
    · subst q
      rw [o.own z] at e
      cases e
    · rw [(o.tab b q).2] at e
      cases e
theorem FewAt.mod (o : FewAt K h H a ts) (kin : K.In h) (ha : h.get? a = some { cls := .type "list", data := .seq vs.toArray }) (ng : h.Ns mainGlobals mg) (nb : h.Ns builtinsNs mb) (bb : ∀ x : Str, x ≠ "__name__" → mb x = bootBuiltins x) (lim : h.NoLimit) : Mod K mg (hidT h H) := by
  obtain ⟨mc, l1, l2⟩ := lim
  exact ⟨o.kin kin, o.ns ha ng, ⟨mb, o.ns ha nb, bb⟩, ⟨mc, o.ns ha l1, l2⟩⟩
theorem FewAt.tabB (o : FewAt K h H a ts) (ha : h.get? a = some { cls := .type "list", data := .seq vs.toArray }) (ng : h.Ns mainGlobals mg)
    (bm : ∃ (m : Addr) (u : Obj), mg "__builtins__" = some (.ref m) ∧ m ≠ builtinsNs ∧ h.get? m = some u ∧ u.cls = .type "module" ∧ u.dict = some builtinsNs ∧ u.data = .plain) {c p : Addr} (hp : p ∈ ts) (C : PySem.W.CodeHd h c p) : TabB (hidT h H) mg c p := by
  have ep := (o.tab p hp).1
  obtain ⟨og, eg, ng2, eG, dG, _⟩ := ng
  obtain ⟨u, fs, x1, x2, x3, x4, x5, x6, x7, g, y1, y2, ys⟩ := C
  have fu : H c = none := by
    by_cases z : H c = none
    · exact z
    · rcases o.only c z with q | q
      · rw [q, ha] at g
        cases g
        cases y2
      · rw [(o.tab c q).1] at g
        cases g
        cases y1
  refine ⟨⟨u, fs, x1, x2, x3, x4, x5, x6, x7, hidT_get g fu, y1, y2, ys⟩, ?_, ?_⟩
  · obtain ⟨m, v, b1, b2, b3, b4, b5, b6⟩ := bm
    have cl : v.cls ≠ .type "list" ∧ v.cls ≠ .none := by
      rw [b4]
      decide
    refine ⟨m, v, b1, b2, ?_, ?_, hidT_get b3 (o.free ha b3 cl.1 cl.2), b4, b5, b6⟩
    · rintro rfl
      rw [b3] at eG
      cases eG
      rw [dG] at b6
      cases b6
    · rintro rfl
      rw [b3] at ep
      cases ep
      cases b5
  · rintro rfl
    rw [ep] at eG
    cases eG
    cases dG
end
theorem law_atT {P : Program} {w : World} {K : PySem.W.Frag} {mg mb : Str → Option Value} {k : Nat} {fa a : Addr} {cs : List (Addr × Addr)} {fd : FuncData} {x : Str} {sp : Sp} {s : Shared} {vs : List Value} {H : Hp}
    (kin : K.In s.heap) (ng : s.heap.Ns mainGlobals mg) (nb : s.heap.Ns builtinsNs mb) (bb : ∀ x : Str, x ≠ "__name__" → mb x = bootBuiltins x) (lim : s.heap.NoLimit) (hgen : s.gens = #[])
    (bm : ∃ (m : Addr) (u : Obj), mg "__builtins__" = some (.ref m) ∧ m ≠ builtinsNs ∧ s.heap.get? m = some u ∧ u.cls = .type "module" ∧ u.dict = some builtinsNs ∧ u.data = .plain) (C : ∀ q ∈ cs, PySem.W.CodeHd s.heap q.1 q.2)
    (ha : s.heap.get? a = some { cls := .type "list", data := .seq vs.toArray }) (hr : Room k callerA) (F : ∀ base : Heap, K.In base → base.Ns mainGlobals mg → (∀ q ∈ cs, TabB base mg q.1 q.2) → FnG P w K mg base CX0 k fa fd [x] sp) (bd : ∀ (t : Shared) (u : Value), BindsTo t fd ⟨[u], []⟩ [(x, u)])
    (o : FewAt K s.heap H a (cs.map (·.2))) (hO : ∀ b, H b = none ∨ b ∈ cs.map (·.2) ∨ ∃ of xs, H b = some (.frz of (.lst xs))) (ok : HOk P w H s.heap) (hsp : sp [.ref a] H (fun v _ => v = .bl true) fun _ _ _ => False) :
    codeAny (model P w) callerA (.call (.ref fa) ⟨[.ref a], []⟩) (fun r t => r = .ok (.ret (.bool true)) ∧ OldK s.heap t.heap ∧ t.os = s.os ∧ AllBare t.gens) s := by
  have inT : ∀ q ∈ cs, q.2 ∈ cs.map (·.2) := fun q hq => List.mem_map_of_mem hq
  have e0 : Env0 P w K mg (hidT s.heap H) callerA [] s H :=
    ⟨rfl, o.mod kin ha ng nb bb lim, fun _ _ z => of_hidT z, Nat.le_of_eq (hidT_size _ _), trivial, fun b z => (nomatch (show b ∈ ([] : List Addr) from z)), ok, .of_eq hgen⟩
  refine codeAny_mono ((F _ (o.kin kin) (o.ns ha ng) fun q hq => o.tabB ha ng bm (inT q hq) (C q hq)).go callerA [] s H ⟨[.ref a], []⟩ [.ref a] [.ref a] _ _ rfl hr e0 (bd s (.ref a)) (.cons rfl .nil) hsp) ?_
  rintro (er | fl) t z
  · exact (show False from z).elim
  · cases fl with
    | next => exact z.elim
    | brk => exact z.elim
    | cont => exact z.elim
    | ret u =>
      obtain ⟨v, H', e1, e2, un, ok', r, q⟩ := z
      have q : v = .bl true := q
      rw [q] at r
      have r : u = Value.bool true := r
      have grown : ∀ b ∈ cs.map (·.2), ∃ more : Array Value, t.heap.get? b = some { cls := .none, data := .fields more } := fun b hb => by
        obtain ⟨more, z⟩ := un.tbls b #[] (o.has b hb)
        exact ⟨_, ok' b _ z⟩
      have same : ∀ b ob, b ∉ cs.map (·.2) → s.heap.get? b = some ob → t.heap.get? b = some ob := fun b ob nb e => by
        by_cases hn : H b = none
        · exact un.keep b ob e hn (fun z => (nomatch (show b ∈ ([] : List Addr) from z))) (by simp)
        · rcases hO b with n | n | ⟨of, xs, n⟩
          · exact absurd n hn
          · exact absurd n nb
          · have g1 := (ok b _ n).1
            have g2 := (ok' b _ (un.frzs b of _ n)).1
            rw [e] at g1
            cases g1
            exact g2
      rw [r]
      refine ⟨rfl, ⟨fun b ob e => ?_, fun b ob e => ?_⟩, e1, e2⟩
      · by_cases hb : b ∈ cs.map (·.2)
        · obtain ⟨more, hm⟩ := grown b hb
          obtain ⟨q, hq, rfl⟩ := List.mem_map.mp hb
          have tq := (o.tab q.2 hb).1
          rw [tq] at e
          cases e
          exact .inr (.inl ⟨((C q hq).tab tq).isCodeTable, rfl, #[], more, rfl, by rw [Array.empty_append]; exact hm⟩)
        · exact .inl (same b ob hb e)
      · by_cases hb : b ∈ cs.map (·.2)
        · obtain ⟨more, hm⟩ := grown b hb
          exact ⟨_, hm⟩
        · exact ⟨_, same b ob hb e⟩
/-- what the law's end asks, at its world: the tables, the binding, the promise -/
structure EndT (l : PySem.W.OpenLaw) (w : World) (K : PySem.W.Frag) (mg : Str → Option Value) (k n : Nat) (x : Str) (fa : Addr) (h : Heap) (fd : FuncData) (cs : List (Addr × Addr)) (sp : Sp) : Prop where
  tabs : ∀ q ∈ cs, h.get? q.2 = some { cls := .none, data := .fields #[] } ∧ K.lookup q.2 = none ∧ PySem.W.CodeHd h q.1 q.2
  binds : ∀ (s : Shared) (u : Value), BindsTo s fd ⟨[u], []⟩ [(x, u)]
  ok : ∀ base : Heap, K.In base → base.Ns mainGlobals mg → (∀ q ∈ cs, TabB base mg q.1 q.2) → FnG l.prog w K mg base CX0 k fa fd [x] sp
  says : ∀ (H : Hp) (a : Addr) (ns : List Int), ns.length ≤ n → (∀ q ∈ cs, H q.2 = some (.tbl #[])) → SqL K H a (ns.map V.int) → sp [.ref a] H (fun v _ => v = .bl true) fun _ _ _ => False
/-- the law's end -/
theorem walk_GT {l : PySem.W.OpenLaw} {n k : Nat} {q : Program} {loose : List Str} {XP : (Str → Option Value) → Heap → Prop} {YP : World → Heap → Prop} {d : DefRec} {K : Params → PySem.W.Frag} {x : Str}
    (hn : l.most = some n) (hn2 : n ≤ sizeLine) (hdf : d.params.defaults = []) (hr : Room k callerA) (hY : ∀ (w : World) (h : Heap), YP w h → (K w.params).In h)
    (F : ∀ (w : World) (mg : Str → Option Value) (fa : Addr) (h : Heap), YP w h → (K w.params).In h → h.Ns mainGlobals mg → mg d.name = some (.ref fa) → ∃ fd cs sp, EndT l w (K w.params) mg k n x fa h fd cs sp) :
    PySem.W.WalkO q loose XP YP l.row.toRowW d [] (fun f vs => PySem.call f vs) := by
  refine Att.attach_callB hn hdf ?_
  intro w s0 s mg mb fa ob pm cd doc a vs ns G Y ho hd hcd hmg hobj hi hlen hbits hgen
  have kin := hY w _ Y
  obtain ⟨fd, cs, sp, ⟨hT, bd, hF, hsp⟩⟩ := F w mg fa _ Y kin G.T.g hmg
  have hz : ns.length ≤ sizeLine := Nat.le_trans hlen hn2
  have rv := vals_ints hi
  have tb : ∀ b ∈ cs.map (·.2), s.heap.get? b = some { cls := .none, data := .fields #[] } ∧ (K w.params).lookup b = none := fun b hb => by
    obtain ⟨q, hq, rfl⟩ := List.mem_map.mp hb
    exact ⟨(hT q hq).1, (hT q hq).2.1⟩
  have aT : a ∉ cs.map (·.2) := fun z => by
    have g := (tb a z).1
    rw [hobj] at g
    cases g
  have inT : ∀ q ∈ cs, q.2 ∈ cs.map (·.2) := fun q hq => List.mem_map_of_mem hq
  cases hk : (K w.params).lookup a with
  | some u =>
    have e := kin a u hk
    rw [hobj] at e
    cases e
    have on : ∀ b, b ∈ cs.map (·.2) → (fun b => if b ∈ cs.map (·.2) then some (.tbl #[]) else none : Hp) b = some (.tbl #[]) := fun b z => if_pos z
    have off : ∀ b, b ∉ cs.map (·.2) → (fun b => if b ∈ cs.map (·.2) then some (.tbl #[]) else none : Hp) b = none := fun b z => if_neg z
    generalize (fun b => if b ∈ cs.map (·.2) then some (.tbl #[]) else none : Hp) = H at on off
    refine law_atT (cs := cs) kin G.T.g G.T.b G.T.builtins G.T.nolimit hgen G.T.bmain (fun q hq => (hT q hq).2.2) hobj hr hF bd ⟨fun b z => .inr ?_, fun z => absurd (off a aT) z, tb, on⟩ (fun b => ?_) (fun b v z => ?_) (hsp H a ns hlen (fun q hq => on _ (inT q hq)) ?_)
    · by_cases hb : b ∈ cs.map (·.2)
      · exact hb
      · exact absurd (off b hb) z
    · by_cases hb : b ∈ cs.map (·.2)
      · exact .inr (.inl hb)
      · exact .inl (off b hb)
    · by_cases hb : b ∈ cs.map (·.2)
      · rw [on b hb] at z
        cases z
        exact (tb b hb).1
      · rw [off b hb] at z
        cases z
    · exact .inr ⟨_, vs.toArray, _, hk, rfl, rfl, rfl, by rw [List.size_toArray, hi.length]; exact hz, by simpa using rv⟩
  | none =>
    have at_ : (fun b => if b = a then some (.frz { cls := .type "list", data := .seq vs.toArray } (.lst (ns.map V.int))) else if b ∈ cs.map (·.2) then some (.tbl #[]) else none : Hp) a = some (.frz { cls := .type "list", data := .seq vs.toArray } (.lst (ns.map V.int))) := if_pos rfl
    have on : ∀ b, b ∈ cs.map (·.2) → (fun b => if b = a then some (.frz { cls := .type "list", data := .seq vs.toArray } (.lst (ns.map V.int))) else if b ∈ cs.map (·.2) then some (.tbl #[]) else none : Hp) b = some (.tbl #[]) := fun b z => by
      have ne : b ≠ a := fun q => aT (q ▸ z)
      show (if b = a then _ else _) = _
      rw [if_neg ne, if_pos z]
    have off : ∀ b, b ≠ a → b ∉ cs.map (·.2) → (fun b => if b = a then some (.frz { cls := .type "list", data := .seq vs.toArray } (.lst (ns.map V.int))) else if b ∈ cs.map (·.2) then some (.tbl #[]) else none : Hp) b = none := fun b n z => by
      show (if b = a then _ else _) = _
      rw [if_neg n, if_neg z]
    generalize (fun b => if b = a then some (.frz { cls := .type "list", data := .seq vs.toArray } (.lst (ns.map V.int))) else if b ∈ cs.map (·.2) then some (.tbl #[]) else none : Hp) = H at at_ on off
    refine law_atT (cs := cs) kin G.T.g G.T.b G.T.builtins G.T.nolimit hgen G.T.bmain (fun q hq => (hT q hq).2.2) hobj hr hF bd ⟨fun b z => ?_, fun _ => hk, tb, on⟩ (fun b => ?_) (fun b v z => ?_) (hsp H a ns hlen (fun q hq => on _ (inT q hq)) (.inl (.inr ⟨_, at_⟩)))
    · by_cases c : b = a
      · exact .inl c
      · by_cases hb : b ∈ cs.map (·.2)
        · exact .inr hb
        · exact absurd (off b c hb) z
    · by_cases c : b = a
      · rw [c]
        exact .inr (.inr ⟨_, _, at_⟩)
      · by_cases hb : b ∈ cs.map (·.2)
        · exact .inr (.inl hb)
        · exact .inl (off b c hb)
    · by_cases c : b = a
      · rw [c, at_] at z
        cases z
        rw [c]
        exact ⟨hobj, by rw [List.length_map]; exact hz, vs, _, rv, hobj⟩
      · by_cases hb : b ∈ cs.map (·.2)
        · rw [on b hb] at z
          cases z
          exact (tb b hb).1
        · rw [off b c hb] at z
          cases z
end L2
set_option Elab.async false
set_option linter.all false
set_option maxRecDepth 100000
set_option maxHeartbeats 8000000
/-! the head's facts put together -/
namespace Q
open PySem L2 PySem.Spec PyProof.Rows PySem.Calls PySem.OwnX LamX LamY
theorem cls_of {K : PySem.W.Frag} {C : Addr} (h : PySem.W.subIn K (.ref C) (.type "BaseException") = some true) : (PySem.W.clsIn K C).isSome = true := by
  have z : PySem.W.mroIn K C (.type "BaseException") = some true := h
  unfold PySem.W.mroIn at z
  cases q : PySem.W.clsIn K C with
  | none =>
    rw [q] at z
    cases z
  | some _ => rfl
theorem exm_of {K : PySem.W.Frag} {B C : Addr} {b : Bool} (hC : PySem.W.subIn K (.ref C) (.type "BaseException") = some true) (t : PySem.W.typeIn K (.ref C) = some (.type "type")) (m : PySem.W.subIn K (.ref B) (.ref C) = some b) : PySem.W.exmOne K (.ref B) (.ref C) = some b := by
  have hc := cls_of hC
  show (if (PySem.W.subIn K (.ref C) (.type "BaseException") == some true) = true then (if ((PySem.W.clsIn K C).isSome && PySem.W.typeIn K (.ref C) == some (.type "type")) = true then PySem.W.subIn K (.ref B) (.ref C) else none) else none) = _
  rw [hC, if_pos (by rfl), hc, t, if_pos (by simp), m]
def ixT : List Value := [.type "OverflowError", .type "ArithmeticError", .type "Exception", .type "BaseException", .type "object"]
def ovT : List Value := [.type "OverflowError", .type "ArithmeticError", .type "Exception", .type "BaseException", .type "object"]
section
open PySem.W PySem.HandSPX
variable {prog : Program} {w : World} {A : Around} {R : Result → Shared → Prop} {s : Shared} {K : PySem.W.Frag} {C fI : Addr} {bmB : List Value} {newId B : String}
theorem init_limit (SF : StoreFacts B bmB "object.__setattr__" "object") (T : OwnTxt K C fI bmB newId) {qual : Str} (noN : PySem.W.findIn K (.ref C) "limit" = some none)
    (fn : IsInit K fI qual (fun a => ∃ p1 p2, a = iArgs [argOf "self" p1, argOf "limit" p2]) (fun b => ∃ q1 q2 q3 q4, b = [putSt "limit" "limit" q1 q2 q3 q4]) (iScope ["self", "limit"]))
    {x t0 : Addr} {v : Value} (X : K.In s.heap) (hlim : s.heap.NoLimit) (hx : s.heap.get? x = some (excO C t0)) (hnx : K.lookup x = none) (hroom : A.depth < recursionLimit)
    (hq : ∀ h' tk dx, Kept s.heap h' x C dx t0 (fun y => if y = "limit" then some v else none) → R (.ok (.ret .none)) { s with heap := h', toks := tk }) :
    codeAny (model prog w) A (.call (.ref fI) ⟨[.ref x, v], []⟩) R s := by
  obtain ⟨oc, od, doc, pm, an, cdv, ct, osl, a, b, ho, hcd, ⟨p1, p2, rfl⟩, ⟨q1, q2, q3, q4, rfl⟩⟩ := fn
  refine Att.call_fn (binds := [("self", .ref x), ("limit", v)]) X hlim ho hcd hroom (BindsTo.of_eq (by first | rfl | with_unfolding_all rfl)) (by first | rfl | decide | with_unfolding_all rfl) (fun s₁ IC => ?_) rfl rfl rfl
  obtain ⟨h₁, tk₁, rfl⟩ := IC.toInCall.same
  have k : ∀ b o, s.heap.get? b = some o → h₁.get? b = some o := IC.toInCall.keep
  have hn := IC.toInCall.ns
  have X₁ : K.In h₁ := X.keeps k
  have hx₁ := k _ _ hx
  show wpAny _ _ (execs _ _) _ _ _
  refine wpAny_execs_cons (plainObj_wpAny_Assign_Attribute ?_)
  refine loadL (v := v) hn (by first | rfl | with_unfolding_all rfl | kernel_rfl) (loadL (v := .ref x) hn (by first | rfl | with_unfolding_all rfl | kernel_rfl) ?_)
  refine PySem.W.set_plain X₁ (ox := excO C t0) (od := none) ⟨hx₁, rfl, rfl, trivial⟩ T.sa ?_
  refine keep_first SF T X₁ hx₁ noN (fun h₃ tk₃ dx k₃ dn dne hx₃ hn₃ => ?_)
  show wpAny _ _ (execs _ _) _ _ _
  have z : s.heap.objs.size < h₁.objs.size := hn.lt
  exact wpAny_execs_nil (hq h₃ tk₃ dx ⟨fun b o hb e => k₃ b o hb (k b o e), hx₃, Nat.le_of_lt (Nat.lt_of_lt_of_le z dn), dne, hn₃⟩)
theorem keeps_limit {P : Program} (SF : StoreFacts B bmB "object.__setattr__" "object") (T : OwnTxt K C fI bmB newId) {qual : Str} (noN : PySem.W.findIn K (.ref C) "limit" = some none)
    (fn : IsInit K fI qual (fun a => ∃ p1 p2, a = iArgs [argOf "self" p1, argOf "limit" p2]) (fun b => ∃ q1 q2 q3 q4, b = [putSt "limit" "limit" q1 q2 q3 q4]) (iScope ["self", "limit"])) : Keeps P w K C fI 1 (fldA "limit") := by
  intro vs us r ln
  match vs, us, r, ln with
  | [v], [u], .cons rv .nil, _ =>
    refine ⟨fun y => if y = "limit" then some u else none, fun f => ?_, fun X hl hx hnx hd hq => init_limit SF T noN fn X hl hx hnx hd hq⟩
    show RelO (List.lookup f [("limit", v)]) (if f = "limit" then some u else none)
    by_cases hf : f = "limit"
    · subst hf
      rw [if_pos rfl]
      have e : List.lookup ("limit" : Str) [(("limit" : Str), v)] = some v := by simp [List.lookup]
      rw [e]
      exact rv
    · rw [if_neg hf]
      have q : (f == ("limit" : Str)) = false := by simpa using hf
      have e : List.lookup f [(("limit" : Str), v)] = none := by simp [List.lookup, q]
      rw [e]
      trivial
end
section
variable {K : PySem.W.Frag} {nm q : Str} {C N : Addr} {bs bm : List Value} {sn : List Str} {sub : List Value} {ab : Bool} {col : Option Bool} {dd : Option Addr} {k0 k1 k2 k3 k5 : Option Value} {newId : String}
theorem own_of {fI : Addr} {bmB : List Value} (e : K.lookup C = some (excClassObj nm q C N bs bm true sn sub ab col dd k0 k1 k2 k3 k5 newId)) (hx : PySem.W.excTail bmB bm = true) (be : PySem.W.subIn K (.ref C) (.type "BaseException") = some true)
    (sa : PySem.W.findIn K (.ref C) "__setattr__" = some (some (.builtin "object.__setattr__"))) (ga : PySem.W.findIn K (.ref C) "__getattribute__" = some (some (.builtin "BaseException.__getattribute__"))) (gg : PySem.W.findIn K (.ref C) "__getattr__" = some none)
    (iC : PySem.W.findIn K (.ref C) "__init__" = some (some (.ref fI))) (tC : PySem.W.typeIn K (.ref fI) = some (.type "function")) (kC : PySem.W.keepIn K (.ref C) = true) (tyC : PySem.W.typeIn K (.ref C) = some (.type "type")) (hd : PySem.W.hasDictIn K C = true) : OwnTxt K C fI bmB newId :=
  ⟨⟨nm, q, N, bs, bm, sn, sub, ab, col, dd, k0, k1, k2, k3, k5, e, hx⟩, sa, ga, gg, iC, tC, kC, be, tyC, hd⟩
end
theorem all_mk {l : PySem.W.OpenLaw} {w : World} {K : PySem.W.Frag} {h : Heap} {mg : Str → Option Value} {fa : Addr} (XX : K.In h) (GG : h.Ns mainGlobals mg) (hfa : mg "law" = some (.ref fa))
    {CS CW CG cT cP cM cA pA cB pB cC pC cD pD cR pR : Addr} {odA odB odC odD odR : Option Addr} {slA slB slC slD slR : Array (Option Value)} {vA vB vC vD vR : Array Value} {tk200 : Nat} {fIM NXM : Addr} {nmxM qnxM : Str} {bsM sbM : List Value} {snM : List Str} {abM : Bool} {coM : Option Bool} {ddM : Option Addr} {kaM kbM kcM kdM keM : Option Value} {ocIM dcIM pmIM cdIM ctIM : Value} {odIM anIM : Option Addr} {slIM : Array (Option Value)} {paM pbM qaM qbM qcM qdM : Pos} {g20 : Addr} {oc20 kV20 dc20 pm20 cd20 ct20 : Value} {od20 an20 : Option Addr} {sl20 : Array (Option Value)} {g22 : Addr} {oc22 kV22 dc22 pm22 cd22 ct22 : Value} {od22 an22 : Option Addr} {sl22 : Array (Option Value)} {g23 : Addr} {oc23 kV23 dc23 pm23 cd23 ct23 : Value} {od23 an23 : Option Addr} {sl23 : Array (Option Value)} {g24 : Addr} {oc24 kV24 dc24 pm24 cd24 ct24 : Value} {od24 an24 : Option Addr} {sl24 : Array (Option Value)} {g25 : Addr} {oc25 kV25 dc25 pm25 cd25 ct25 : Value} {od25 an25 : Option Addr} {sl25 : Array (Option Value)} {g27 : Addr} {oc27 kV27 dc27 pm27 cd27 ct27 : Value} {od27 an27 : Option Addr} {sl27 : Array (Option Value)} {g32 : Addr} {oc32 kV32 dc32 pm32 cd32 ct32 : Value} {od32 an32 : Option Addr} {sl32 : Array (Option Value)} {g33 : Addr} {oc33 kV33 dc33 pm33 cd33 ct33 : Value} {od33 an33 : Option Addr} {sl33 : Array (Option Value)} {g35 : Addr} {oc35 kV35 dc35 pm35 cd35 ct35 : Value} {od35 an35 : Option Addr} {sl35 : Array (Option Value)} {g36 : Addr} {oc36 kV36 dc36 pm36 cd36 ct36 : Value} {od36 an36 : Option Addr} {sl36 : Array (Option Value)} {g42 : Addr} {oc42 kV42 dc42 pm42 cd42 ct42 : Value} {od42 an42 : Option Addr} {sl42 : Array (Option Value)} {g44 : Addr} {oc44 kV44 dc44 pm44 cd44 ct44 : Value} {od44 an44 : Option Addr} {sl44 : Array (Option Value)} {g45 : Addr} {oc45 kV45 dc45 pm45 cd45 ct45 : Value} {od45 an45 : Option Addr} {sl45 : Array (Option Value)} {g47 : Addr} {oc47 kV47 dc47 pm47 cd47 ct47 : Value} {od47 an47 : Option Addr} {sl47 : Array (Option Value)} {g51 : Addr} {oc51 kV51 dc51 pm51 cd51 ct51 : Value} {od51 an51 : Option Addr} {sl51 : Array (Option Value)} {g52 : Addr} {oc52 kV52 dc52 pm52 cd52 ct52 : Value} {od52 an52 : Option Addr} {sl52 : Array (Option Value)} {g54 : Addr} {oc54 kV54 dc54 pm54 cd54 ct54 : Value} {od54 an54 : Option Addr} {sl54 : Array (Option Value)} {g55 : Addr} {oc55 kV55 dc55 pm55 cd55 ct55 : Value} {od55 an55 : Option Addr} {sl55 : Array (Option Value)} {g64 : Addr} {oc64 kV64 dc64 pm64 cd64 ct64 : Value} {od64 an64 : Option Addr} {sl64 : Array (Option Value)} {g65 : Addr} {oc65 kV65 dc65 pm65 cd65 ct65 : Value} {od65 an65 : Option Addr} {sl65 : Array (Option Value)} {g66 : Addr} {oc66 kV66 dc66 pm66 cd66 ct66 : Value} {od66 an66 : Option Addr} {sl66 : Array (Option Value)} {g67 : Addr} {oc67 kV67 dc67 pm67 cd67 ct67 : Value} {od67 an67 : Option Addr} {sl67 : Array (Option Value)} {g68 : Addr} {oc68 kV68 dc68 pm68 cd68 ct68 : Value} {od68 an68 : Option Addr} {sl68 : Array (Option Value)} {g69 : Addr} {oc69 kV69 dc69 pm69 cd69 ct69 : Value} {od69 an69 : Option Addr} {sl69 : Array (Option Value)} {g70 : Addr} {oc70 kV70 dc70 pm70 cd70 ct70 : Value} {od70 an70 : Option Addr} {sl70 : Array (Option Value)} {g71 : Addr} {oc71 kV71 dc71 pm71 cd71 ct71 : Value} {od71 an71 : Option Addr} {sl71 : Array (Option Value)} {g72 : Addr} {oc72 kV72 dc72 pm72 cd72 ct72 : Value} {od72 an72 : Option Addr} {sl72 : Array (Option Value)} {g73 : Addr} {oc73 kV73 dc73 pm73 cd73 ct73 : Value} {od73 an73 : Option Addr} {sl73 : Array (Option Value)} {g87 : Addr} {oc87 kV87 dc87 pm87 cd87 ct87 : Value} {od87 an87 : Option Addr} {sl87 : Array (Option Value)} {g88 : Addr} {oc88 kV88 dc88 pm88 cd88 ct88 : Value} {od88 an88 : Option Addr} {sl88 : Array (Option Value)} {g89 : Addr} {oc89 kV89 dc89 pm89 cd89 ct89 : Value} {od89 an89 : Option Addr} {sl89 : Array (Option Value)} {g90 : Addr} {oc90 kV90 dc90 pm90 cd90 ct90 : Value} {od90 an90 : Option Addr} {sl90 : Array (Option Value)} {g91 : Addr} {oc91 kV91 dc91 pm91 cd91 ct91 : Value} {od91 an91 : Option Addr} {sl91 : Array (Option Value)} {g94 : Addr} {oc94 kV94 dc94 pm94 cd94 ct94 : Value} {od94 an94 : Option Addr} {sl94 : Array (Option Value)} {g95 : Addr} {oc95 kV95 dc95 pm95 cd95 ct95 : Value} {od95 an95 : Option Addr} {sl95 : Array (Option Value)} {g96 : Addr} {oc96 kV96 dc96 pm96 cd96 ct96 : Value} {od96 an96 : Option Addr} {sl96 : Array (Option Value)} {g97 : Addr} {oc97 kV97 dc97 pm97 cd97 ct97 : Value} {od97 an97 : Option Addr} {sl97 : Array (Option Value)} {g98 : Addr} {oc98 kV98 dc98 pm98 cd98 ct98 : Value} {od98 an98 : Option Addr} {sl98 : Array (Option Value)} {g99 : Addr} {oc99 kV99 dc99 pm99 cd99 ct99 : Value} {od99 an99 : Option Addr} {sl99 : Array (Option Value)} {g100 : Addr} {oc100 kV100 dc100 pm100 cd100 ct100 : Value} {od100 an100 : Option Addr} {sl100 : Array (Option Value)} {g101 : Addr} {oc101 kV101 dc101 pm101 cd101 ct101 : Value} {od101 an101 : Option Addr} {sl101 : Array (Option Value)} {g102 : Addr} {oc102 kV102 dc102 pm102 cd102 ct102 : Value} {od102 an102 : Option Addr} {sl102 : Array (Option Value)} {g103 : Addr} {oc103 kV103 dc103 pm103 cd103 ct103 : Value} {od103 an103 : Option Addr} {sl103 : Array (Option Value)} {g104 : Addr} {oc104 kV104 dc104 pm104 cd104 ct104 : Value} {od104 an104 : Option Addr} {sl104 : Array (Option Value)} {g105 : Addr} {oc105 kV105 dc105 pm105 cd105 ct105 : Value} {od105 an105 : Option Addr} {sl105 : Array (Option Value)} {g106 : Addr} {oc106 kV106 dc106 pm106 cd106 ct106 : Value} {od106 an106 : Option Addr} {sl106 : Array (Option Value)} {g107 : Addr} {oc107 kV107 dc107 pm107 cd107 ct107 : Value} {od107 an107 : Option Addr} {sl107 : Array (Option Value)} {g108 : Addr} {oc108 kV108 dc108 pm108 cd108 ct108 : Value} {od108 an108 : Option Addr} {sl108 : Array (Option Value)} {g109 : Addr} {oc109 kV109 dc109 pm109 cd109 ct109 : Value} {od109 an109 : Option Addr} {sl109 : Array (Option Value)} {g111 : Addr} {oc111 kV111 dc111 pm111 cd111 ct111 : Value} {od111 an111 : Option Addr} {sl111 : Array (Option Value)} {g112 : Addr} {oc112 kV112 dc112 pm112 cd112 ct112 : Value} {od112 an112 : Option Addr} {sl112 : Array (Option Value)} {g113 : Addr} {oc113 kV113 dc113 pm113 cd113 ct113 : Value} {od113 an113 : Option Addr} {sl113 : Array (Option Value)} {g114 : Addr} {oc114 kV114 dc114 pm114 cd114 ct114 : Value} {od114 an114 : Option Addr} {sl114 : Array (Option Value)} {g115 : Addr} {oc115 kV115 dc115 pm115 ct115 : Value} {od115 an115 : Option Addr} {sl115 : Array (Option Value)} {g116 : Addr} {oc116 kV116 dc116 pm116 ct116 : Value} {od116 an116 : Option Addr} {sl116 : Array (Option Value)} {g117 : Addr} {oc117 kV117 dc117 pm117 ct117 : Value} {od117 an117 : Option Addr} {sl117 : Array (Option Value)} {g118 : Addr} {oc118 kV118 dc118 pm118 ct118 : Value} {od118 an118 : Option Addr} {sl118 : Array (Option Value)} {g119 : Addr} {oc119 kV119 dc119 pm119 ct119 : Value} {od119 an119 : Option Addr} {sl119 : Array (Option Value)} {g120 : Addr} {oc120 kV120 dc120 pm120 cd120 ct120 : Value} {od120 an120 : Option Addr} {sl120 : Array (Option Value)} {gMWI : Addr} {ocMWI kVMWI dcMWI pmMWI cdMWI ctMWI : Value} {odMWI anMWI : Option Addr} {slMWI : Array (Option Value)} {gMTd : Addr} {ocMTd kVMTd dcMTd pmMTd cdMTd ctMTd : Value} {odMTd anMTd : Option Addr} {slMTd : Array (Option Value)} {gMGa : Addr} {ocMGa kVMGa dcMGa pmMGa cdMGa ctMGa : Value} {odMGa anMGa : Option Addr} {slMGa : Array (Option Value)} {gMFo : Addr} {ocMFo kVMFo dcMFo pmMFo cdMFo ctMFo : Value} {odMFo anMFo : Option Addr} {slMFo : Array (Option Value)} {gMSee : Addr} {ocMSee kVMSee dcMSee pmMSee cdMSee ctMSee : Value} {odMSee anMSee : Option Addr} {slMSee : Array (Option Value)} {gMFS1 : Addr} {ocMFS1 kVMFS1 dcMFS1 pmMFS1 cdMFS1 ctMFS1 : Value} {odMFS1 anMFS1 : Option Addr} {slMFS1 : Array (Option Value)} {gMRP : Addr} {ocMRP kVMRP dcMRP pmMRP cdMRP ctMRP : Value} {odMRP anMRP : Option Addr} {slMRP : Array (Option Value)} {gMSe : Addr} {ocMSe kVMSe dcMSe pmMSe cdMSe ctMSe : Value} {odMSe anMSe : Option Addr} {slMSe : Array (Option Value)} {gMRA : Addr} {ocMRA kVMRA dcMRA pmMRA cdMRA ctMRA : Value} {odMRA anMRA : Option Addr} {slMRA : Array (Option Value)} {gMGI : Addr} {ocMGI kVMGI dcMGI pmMGI cdMGI ctMGI : Value} {odMGI anMGI : Option Addr} {slMGI : Array (Option Value)} {gMSI : Addr} {ocMSI kVMSI dcMSI pmMSI cdMSI ctMSI : Value} {odMSI anMSI : Option Addr} {slMSI : Array (Option Value)} {gMTk : Addr} {ocMTk kVMTk dcMTk pmMTk cdMTk ctMTk : Value} {odMTk anMTk : Option Addr} {slMTk : Array (Option Value)}
    (aCS : PySem.W.nsIn K mainGlobals "Shape" = some (some (.ref CS)))
    (pgS : PySem.W.plainGet K CS Str.empty = true)
    (hdS : PySem.W.hasDictIn K CS = true)
    (poS : PySem.W.plainOver K CS = true)
    (saS : PySem.W.findIn K (.ref CS) "__setattr__" = some (some (.builtin "object.__setattr__")))
    (nS0 : PySem.W.findIn K (.ref CS) "_form" = some none)
    (nS1 : PySem.W.findIn K (.ref CS) "_sides" = some none)
    (nS2 : PySem.W.findIn K (.ref CS) "_members" = some none)
    (kCS : PySem.W.keepIn K (.ref CS) = true)
    (mkS : PySem.W.makesIn K CS = true)
    (aCW : PySem.W.nsIn K mainGlobals "Web" = some (some (.ref CW)))
    (pgW : PySem.W.plainGet K CW Str.empty = true)
    (hdW : PySem.W.hasDictIn K CW = true)
    (poW : PySem.W.plainOver K CW = true)
    (saW : PySem.W.findIn K (.ref CW) "__setattr__" = some (some (.builtin "object.__setattr__")))
    (nW0 : PySem.W.findIn K (.ref CW) "spots" = some none)
    (nW1 : PySem.W.findIn K (.ref CW) "steps" = some none)
    (nW2 : PySem.W.findIn K (.ref CW) "chains" = some none)
    (nW3 : PySem.W.findIn K (.ref CW) "spans" = some none)
    (nW4 : PySem.W.findIn K (.ref CW) "rulers" = some none)
    (nW5 : PySem.W.findIn K (.ref CW) "ties" = some none)
    (nW6 : PySem.W.findIn K (.ref CW) "covering" = some none)
    (nW7 : PySem.W.findIn K (.ref CW) "spot_at" = some none)
    (nW8 : PySem.W.findIn K (.ref CW) "tie_at" = some none)
    (nW9 : PySem.W.findIn K (.ref CW) "half_turn" = some none)
    (nW10 : PySem.W.findIn K (.ref CW) "turns" = some none)
    (nW11 : PySem.W.findIn K (.ref CW) "leaving" = some none)
    (nW12 : PySem.W.findIn K (.ref CW) "after" = some none)
    (nW13 : PySem.W.findIn K (.ref CW) "walks" = some none)
    (nW14 : PySem.W.findIn K (.ref CW) "walk_at" = some none)
    (nW15 : PySem.W.findIn K (.ref CW) "first_spots" = some none)
    (nW16 : PySem.W.findIn K (.ref CW) "lone_rooms" = some none)
    (nW17 : PySem.W.findIn K (.ref CW) "room_at" = some none)
    (nW18 : PySem.W.findIn K (.ref CW) "room_count" = some none)
    (nW19 : PySem.W.findIn K (.ref CW) "rooms_left" = some none)
    (nW20 : PySem.W.findIn K (.ref CW) "borders" = some none)
    (kCW : PySem.W.keepIn K (.ref CW) = true)
    (mkW : PySem.W.makesIn K CW = true)
    (aCG : PySem.W.nsIn K mainGlobals "Groups" = some (some (.ref CG)))
    (pgG : PySem.W.plainGet K CG Str.empty = true)
    (hdG : PySem.W.hasDictIn K CG = true)
    (poG : PySem.W.plainOver K CG = true)
    (saG : PySem.W.findIn K (.ref CG) "__setattr__" = some (some (.builtin "object.__setattr__")))
    (nG0 : PySem.W.findIn K (.ref CG) "_lower" = some none)
    (kCG : PySem.W.keepIn K (.ref CG) = true)
    (mkG : PySem.W.makesIn K CG = true)
    (iha : PySem.W.findIn K (.ref CS) "__class__" = some (some (.builtin "object.__class__")))
    (ihn : PySem.W.specialIn K (.builtin "object.__class__") "__get__" = some (some (.builtin "getset_descriptor.__get__")))
    (ihtk : PySem.W.takesIn K (.builtin "object.__class__") = some true)
    (ihm : PySem.W.mroIn K CS (.type "object") = some true)
    (ime : PySem.W.kitOne K (.ref CS) (.ref CS) = some true)
    (nop0 : PySem.W.kitOne K (.ref CS) (.type "int") = some false)
    (nop1 : PySem.W.kitOne K (.ref CS) (.type "bool") = some false)
    (nop2 : PySem.W.kitOne K (.ref CS) (.type "tuple") = some false)
    (ksnon : PySem.W.kitOne K (.type "NoneType") (.ref CS) = some false)
    (ksbl : PySem.W.kitOne K (.type "bool") (.ref CS) = some false)
    (ksint : PySem.W.kitOne K (.type "int") (.ref CS) = some false)
    (ksstr : PySem.W.kitOne K (.type "str") (.ref CS) = some false)
    (kslst : PySem.W.kitOne K (.type "list") (.ref CS) = some false)
    (kstup : PySem.W.kitOne K (.type "tuple") (.ref CS) = some false)
    (ksdct : PySem.W.kitOne K (.type "dict") (.ref CS) = some false)
    (g_MAX : PySem.W.nsIn K mainGlobals "MAX_TOLD" = some (some (.int 200 tk200)))
    (AT : PySem.W.nsIn K mainGlobals "InvalidShape" = some (some (.ref cT)))
    (TT : PySem.W.typeIn K (.ref cT) = some (.type "type"))
    (KT : PySem.W.keepIn K (.ref cT) = true)
    (ST : PySem.W.subIn K (.ref cT) (.type "BaseException") = some true)
    (AP : PySem.W.nsIn K mainGlobals "InvalidPoint" = some (some (.ref cP)))
    (TP : PySem.W.typeIn K (.ref cP) = some (.type "type"))
    (KP : PySem.W.keepIn K (.ref cP) = true)
    (SP : PySem.W.subIn K (.ref cP) (.type "BaseException") = some true)
    (AM : PySem.W.nsIn K mainGlobals "TooMany" = some (some (.ref cM)))
    (TM : PySem.W.typeIn K (.ref cM) = some (.type "type"))
    (KM : PySem.W.keepIn K (.ref cM) = true)
    (SM : PySem.W.subIn K (.ref cM) (.type "BaseException") = some true)
    (PT : PySem.W.excIn K cT [.type "ValueError", .type "Exception", .type "BaseException", .type "object"] "ValueError.__new__" = true)
    (PP : PySem.W.excIn K cP [.type "ValueError", .type "Exception", .type "BaseException", .type "object"] "ValueError.__new__" = true)
    (xTT : PySem.W.subIn K (.ref cT) (.ref cT) = some true)
    (xPT : PySem.W.subIn K (.ref cP) (.ref cT) = some false)
    (xPP : PySem.W.subIn K (.ref cP) (.ref cP) = some true)
    (xMP : PySem.W.subIn K (.ref cM) (.ref cP) = some false)
    (xMT : PySem.W.subIn K (.ref cM) (.ref cT) = some false)
    (xMM : PySem.W.subIn K (.ref cM) (.ref cM) = some true)
    (XM : K.lookup cM = some (excClassObj nmxM qnxM cM NXM bsM [.type "OverflowError", .type "ArithmeticError", .type "Exception", .type "BaseException", .type "object"] true snM sbM abM coM ddM kaM kbM kcM kdM keM "OverflowError.__new__"))
    (GM : PySem.W.findIn K (.ref cM) "__getattribute__" = some (some (.builtin "BaseException.__getattribute__")))
    (HM : PySem.W.findIn K (.ref cM) "__getattr__" = some none)
    (EM : PySem.W.findIn K (.ref cM) "__setattr__" = some (some (.builtin "object.__setattr__")))
    (IM : PySem.W.findIn K (.ref cM) "__init__" = some (some (.ref fIM)))
    (FM : PySem.W.typeIn K (.ref fIM) = some (.type "function"))
    (LM : K.lookup fIM = some ⟨ocIM, odIM, .func (PySem.W.fnOf "__init__" "TooMany.__init__" (iArgs [argOf "self" paM, argOf "limit" pbM]) [putSt "limit" "limit" qaM qbM qcM qdM] (iScope ["self", "limit"]) .none .none dcIM pmIM anIM cdIM ctIM), slIM⟩)
    (DM : PySem.W.codeIn K cdIM "TooMany.__init__" = true)
    (YM : PySem.W.hasDictIn K cM = true)
    (NMx : PySem.W.findIn K (.ref cM) "limit" = some none)
    (gc0 : PySem.W.nsIn K mainGlobals "gcd" = some (some (.builtin "math.gcd")))
    (a20 : PySem.W.nsIn K mainGlobals "is_integer" = some (some (.ref g20)))
    (l20 : K.lookup g20 = some ⟨oc20, od20, .func (PySem.W.fnOf "is_integer" "is_integer" (defArgs sIsInt) (defBody sIsInt) (defScope sIsInt) .none kV20 dc20 pm20 an20 cd20 ct20), sl20⟩)
    (c20d : PySem.W.codeIn K cd20 "is_integer" = true)
    (k20 : PySem.W.keepIn K (.ref g20) = true)
    (a22 : PySem.W.nsIn K mainGlobals "fine_bits" = some (some (.ref g22)))
    (l22 : K.lookup g22 = some ⟨oc22, od22, .func (PySem.W.fnOf "fine_bits" "fine_bits" (defArgs sFB) (defBody sFB) (defScope sFB) .none kV22 dc22 pm22 an22 cd22 ct22), sl22⟩)
    (c22d : PySem.W.codeIn K cd22 "fine_bits" = true)
    (k22 : PySem.W.keepIn K (.ref g22) = true)
    (a23 : PySem.W.nsIn K mainGlobals "steps_of" = some (some (.ref g23)))
    (l23 : K.lookup g23 = some ⟨oc23, od23, .func (PySem.W.fnOf "steps_of" "steps_of" (defArgs sStO) (defBody sStO) (defScope sStO) .none kV23 dc23 pm23 an23 cd23 ct23), sl23⟩)
    (c23d : PySem.W.codeIn K cd23 "steps_of" = true)
    (k23 : PySem.W.keepIn K (.ref g23) = true)
    (a24 : PySem.W.nsIn K mainGlobals "fraction_steps" = some (some (.ref g24)))
    (l24 : K.lookup g24 = some ⟨oc24, od24, .func (PySem.W.fnOf "fraction_steps" "fraction_steps" (defArgs sFS) (defBody sFS) (defScope sFS) .none kV24 dc24 pm24 an24 cd24 ct24), sl24⟩)
    (c24d : PySem.W.codeIn K cd24 "fraction_steps" = true)
    (k24 : PySem.W.keepIn K (.ref g24) = true)
    (a25 : PySem.W.nsIn K mainGlobals "slope_ranks" = some (some (.ref g25)))
    (l25 : K.lookup g25 = some ⟨oc25, od25, .func (PySem.W.fnOf "slope_ranks" "slope_ranks" (defArgs sSR) (defBody sSR) (defScope sSR) .none kV25 dc25 pm25 an25 cd25 ct25), sl25⟩)
    (c25d : PySem.W.codeIn K cd25 "slope_ranks" = true)
    (k25 : PySem.W.keepIn K (.ref g25) = true)
    (a27 : PySem.W.nsIn K mainGlobals "is_point" = some (some (.ref g27)))
    (l27 : K.lookup g27 = some ⟨oc27, od27, .func (PySem.W.fnOf "is_point" "is_point" (defArgs sIsPt) (defBody sIsPt) (defScope sIsPt) .none kV27 dc27 pm27 an27 cd27 ct27), sl27⟩)
    (c27d : PySem.W.codeIn K cd27 "is_point" = true)
    (k27 : PySem.W.keepIn K (.ref g27) = true)
    (a32 : PySem.W.nsIn K mainGlobals "form_of" = some (some (.ref g32)))
    (l32 : K.lookup g32 = some ⟨oc32, od32, .func (PySem.W.fnOf "form_of" "form_of" (defArgs sFo2) (defBody sFo2) (defScope sFo2) .none kV32 dc32 pm32 an32 cd32 ct32), sl32⟩)
    (c32d : PySem.W.codeIn K cd32 "form_of" = true)
    (k32 : PySem.W.keepIn K (.ref g32) = true)
    (a33 : PySem.W.nsIn K mainGlobals "pieces_of" = some (some (.ref g33)))
    (l33 : K.lookup g33 = some ⟨oc33, od33, .func (PySem.W.fnOf "pieces_of" "pieces_of" (defArgs sPo) (defBody sPo) (defScope sPo) .none kV33 dc33 pm33 an33 cd33 ct33), sl33⟩)
    (c33d : PySem.W.codeIn K cd33 "pieces_of" = true)
    (k33 : PySem.W.keepIn K (.ref g33) = true)
    (a35 : PySem.W.nsIn K mainGlobals "_areas" = some (some (.ref g35)))
    (l35 : K.lookup g35 = some ⟨oc35, od35, .func (PySem.W.fnOf "_areas" "_areas" (defArgs sAr) (defBody sAr) (defScope sAr) .none kV35 dc35 pm35 an35 cd35 ct35), sl35⟩)
    (c35d : PySem.W.codeIn K cd35 "_areas" = true)
    (k35 : PySem.W.keepIn K (.ref g35) = true)
    (a36 : PySem.W.nsIn K mainGlobals "_owners" = some (some (.ref g36)))
    (l36 : K.lookup g36 = some ⟨oc36, od36, .func (PySem.W.fnOf "_owners" "_owners" (defArgs sOw) (defBody sOw) (defScope sOw) .none kV36 dc36 pm36 an36 cd36 ct36), sl36⟩)
    (c36d : PySem.W.codeIn K cd36 "_owners" = true)
    (k36 : PySem.W.keepIn K (.ref g36) = true)
    (a42 : PySem.W.nsIn K mainGlobals "_is_alone" = some (some (.ref g42)))
    (l42 : K.lookup g42 = some ⟨oc42, od42, .func (PySem.W.fnOf "_is_alone" "_is_alone" (defArgs sAl) (defBody sAl) (defScope sAl) .none kV42 dc42 pm42 an42 cd42 ct42), sl42⟩)
    (c42d : PySem.W.codeIn K cd42 "_is_alone" = true)
    (k42 : PySem.W.keepIn K (.ref g42) = true)
    (a44 : PySem.W.nsIn K mainGlobals "cut" = some (some (.ref g44)))
    (l44 : K.lookup g44 = some ⟨oc44, od44, .func (PySem.W.fnOf "cut" "cut" (defArgs sCut) (defBody sCut) (defScope sCut) .none kV44 dc44 pm44 an44 cd44 ct44), sl44⟩)
    (c44d : PySem.W.codeIn K cd44 "cut" = true)
    (k44 : PySem.W.keepIn K (.ref g44) = true)
    (a45 : PySem.W.nsIn K mainGlobals "_points_on_sides" = some (some (.ref g45)))
    (l45 : K.lookup g45 = some ⟨oc45, od45, .func (PySem.W.fnOf "_points_on_sides" "_points_on_sides" (defArgs sPOS) (defBody sPOS) (defScope sPOS) .none kV45 dc45 pm45 an45 cd45 ct45), sl45⟩)
    (c45d : PySem.W.codeIn K cd45 "_points_on_sides" = true)
    (k45 : PySem.W.keepIn K (.ref g45) = true)
    (a47 : PySem.W.nsIn K mainGlobals "half_below" = some (some (.ref g47)))
    (l47 : K.lookup g47 = some ⟨oc47, od47, .func (PySem.W.fnOf "half_below" "half_below" (defArgs sHB) (defBody sHB) (defScope sHB) .none kV47 dc47 pm47 an47 cd47 ct47), sl47⟩)
    (c47d : PySem.W.codeIn K cd47 "half_below" = true)
    (k47 : PySem.W.keepIn K (.ref g47) = true)
    (a51 : PySem.W.nsIn K mainGlobals "_linked" = some (some (.ref g51)))
    (l51 : K.lookup g51 = some ⟨oc51, od51, .func (PySem.W.fnOf "_linked" "_linked" (defArgs sLk) (defBody sLk) (defScope sLk) .none kV51 dc51 pm51 an51 cd51 ct51), sl51⟩)
    (c51d : PySem.W.codeIn K cd51 "_linked" = true)
    (k51 : PySem.W.keepIn K (.ref g51) = true)
    (a52 : PySem.W.nsIn K mainGlobals "_walked" = some (some (.ref g52)))
    (l52 : K.lookup g52 = some ⟨oc52, od52, .func (PySem.W.fnOf "_walked" "_walked" (defArgs sWk) (defBody sWk) (defScope sWk) .none kV52 dc52 pm52 an52 cd52 ct52), sl52⟩)
    (c52d : PySem.W.codeIn K cd52 "_walked" = true)
    (k52 : PySem.W.keepIn K (.ref g52) = true)
    (a54 : PySem.W.nsIn K mainGlobals "ring_sides" = some (some (.ref g54)))
    (l54 : K.lookup g54 = some ⟨oc54, od54, .func (PySem.W.fnOf "ring_sides" "ring_sides" (defArgs sRS) (defBody sRS) (defScope sRS) .none kV54 dc54 pm54 an54 cd54 ct54), sl54⟩)
    (c54d : PySem.W.codeIn K cd54 "ring_sides" = true)
    (k54 : PySem.W.keepIn K (.ref g54) = true)
    (a55 : PySem.W.nsIn K mainGlobals "flooded" = some (some (.ref g55)))
    (l55 : K.lookup g55 = some ⟨oc55, od55, .func (PySem.W.fnOf "flooded" "flooded" (defArgs sFl) (defBody sFl) (defScope sFl) .none kV55 dc55 pm55 an55 cd55 ct55), sl55⟩)
    (c55d : PySem.W.codeIn K cd55 "flooded" = true)
    (k55 : PySem.W.keepIn K (.ref g55) = true)
    (a64 : PySem.W.nsIn K mainGlobals "is_told_corner" = some (some (.ref g64)))
    (l64 : K.lookup g64 = some ⟨oc64, od64, .func (PySem.W.fnOf "is_told_corner" "is_told_corner" (defArgs sCor) (defBody sCor) (defScope sCor) .none kV64 dc64 pm64 an64 cd64 ct64), sl64⟩)
    (c64d : PySem.W.codeIn K cd64 "is_told_corner" = true)
    (k64 : PySem.W.keepIn K (.ref g64) = true)
    (a65 : PySem.W.nsIn K mainGlobals "are_told_corners" = some (some (.ref g65)))
    (l65 : K.lookup g65 = some ⟨oc65, od65, .func (PySem.W.fnOf "are_told_corners" "are_told_corners" (defArgs sCors) (defBody sCors) (defScope sCors) .none kV65 dc65 pm65 an65 cd65 ct65), sl65⟩)
    (c65d : PySem.W.codeIn K cd65 "are_told_corners" = true)
    (k65 : PySem.W.keepIn K (.ref g65) = true)
    (a66 : PySem.W.nsIn K mainGlobals "is_told_ring" = some (some (.ref g66)))
    (l66 : K.lookup g66 = some ⟨oc66, od66, .func (PySem.W.fnOf "is_told_ring" "is_told_ring" (defArgs sRing) (defBody sRing) (defScope sRing) .none kV66 dc66 pm66 an66 cd66 ct66), sl66⟩)
    (c66d : PySem.W.codeIn K cd66 "is_told_ring" = true)
    (k66 : PySem.W.keepIn K (.ref g66) = true)
    (a67 : PySem.W.nsIn K mainGlobals "is_told_area" = some (some (.ref g67)))
    (l67 : K.lookup g67 = some ⟨oc67, od67, .func (PySem.W.fnOf "is_told_area" "is_told_area" (defArgs sArea) (defBody sArea) (defScope sArea) .none kV67 dc67 pm67 an67 cd67 ct67), sl67⟩)
    (c67d : PySem.W.codeIn K cd67 "is_told_area" = true)
    (k67 : PySem.W.keepIn K (.ref g67) = true)
    (a68 : PySem.W.nsIn K mainGlobals "is_told_piece" = some (some (.ref g68)))
    (l68 : K.lookup g68 = some ⟨oc68, od68, .func (PySem.W.fnOf "is_told_piece" "is_told_piece" (defArgs sPiece) (defBody sPiece) (defScope sPiece) .none kV68 dc68 pm68 an68 cd68 ct68), sl68⟩)
    (c68d : PySem.W.codeIn K cd68 "is_told_piece" = true)
    (k68 : PySem.W.keepIn K (.ref g68) = true)
    (a69 : PySem.W.nsIn K mainGlobals "is_told_shape" = some (some (.ref g69)))
    (l69 : K.lookup g69 = some ⟨oc69, od69, .func (PySem.W.fnOf "is_told_shape" "is_told_shape" (defArgs sToldS) (defBody sToldS) (defScope sToldS) .none kV69 dc69 pm69 an69 cd69 ct69), sl69⟩)
    (c69d : PySem.W.codeIn K cd69 "is_told_shape" = true)
    (k69 : PySem.W.keepIn K (.ref g69) = true)
    (a70 : PySem.W.nsIn K mainGlobals "told_size" = some (some (.ref g70)))
    (l70 : K.lookup g70 = some ⟨oc70, od70, .func (PySem.W.fnOf "told_size" "told_size" (defArgs sTSize) (defBody sTSize) (defScope sTSize) .none kV70 dc70 pm70 an70 cd70 ct70), sl70⟩)
    (c70d : PySem.W.codeIn K cd70 "told_size" = true)
    (k70 : PySem.W.keepIn K (.ref g70) = true)
    (a71 : PySem.W.nsIn K mainGlobals "told_point" = some (some (.ref g71)))
    (l71 : K.lookup g71 = some ⟨oc71, od71, .func (PySem.W.fnOf "told_point" "told_point" (defArgs sTPt) (defBody sTPt) (defScope sTPt) .none kV71 dc71 pm71 an71 cd71 ct71), sl71⟩)
    (c71d : PySem.W.codeIn K cd71 "told_point" = true)
    (k71 : PySem.W.keepIn K (.ref g71) = true)
    (a72 : PySem.W.nsIn K mainGlobals "told_points" = some (some (.ref g72)))
    (l72 : K.lookup g72 = some ⟨oc72, od72, .func (PySem.W.fnOf "told_points" "told_points" (defArgs sTPts) (defBody sTPts) (defScope sTPts) .none kV72 dc72 pm72 an72 cd72 ct72), sl72⟩)
    (c72d : PySem.W.codeIn K cd72 "told_points" = true)
    (k72 : PySem.W.keepIn K (.ref g72) = true)
    (a73 : PySem.W.nsIn K mainGlobals "told_form" = some (some (.ref g73)))
    (l73 : K.lookup g73 = some ⟨oc73, od73, .func (PySem.W.fnOf "told_form" "told_form" (defArgs sTF) (defBody sTF) (defScope sTF) .none kV73 dc73 pm73 an73 cd73 ct73), sl73⟩)
    (c73d : PySem.W.codeIn K cd73 "told_form" = true)
    (k73 : PySem.W.keepIn K (.ref g73) = true)
    (a87 : PySem.W.nsIn K mainGlobals "shape_of" = some (some (.ref g87)))
    (l87 : K.lookup g87 = some ⟨oc87, od87, .func (PySem.W.fnOf "shape_of" "shape_of" (defArgs sSO) (defBody sSO) (defScope sSO) .none kV87 dc87 pm87 an87 cd87 ct87), sl87⟩)
    (c87d : PySem.W.codeIn K cd87 "shape_of" = true)
    (k87 : PySem.W.keepIn K (.ref g87) = true)
    (a88 : PySem.W.nsIn K mainGlobals "check_shapes" = some (some (.ref g88)))
    (l88 : K.lookup g88 = some ⟨oc88, od88, .func (PySem.W.fnOf "check_shapes" "check_shapes" (defArgs sChS) (defBody sChS) (defScope sChS) .none kV88 dc88 pm88 an88 cd88 ct88), sl88⟩)
    (c88d : PySem.W.codeIn K cd88 "check_shapes" = true)
    (k88 : PySem.W.keepIn K (.ref g88) = true)
    (a89 : PySem.W.nsIn K mainGlobals "check_told_size" = some (some (.ref g89)))
    (l89 : K.lookup g89 = some ⟨oc89, od89, .func (PySem.W.fnOf "check_told_size" "check_told_size" (defArgs sCTS) (defBody sCTS) (defScope sCTS) .none kV89 dc89 pm89 an89 cd89 ct89), sl89⟩)
    (c89d : PySem.W.codeIn K cd89 "check_told_size" = true)
    (k89 : PySem.W.keepIn K (.ref g89) = true)
    (a90 : PySem.W.nsIn K mainGlobals "check_drawn" = some (some (.ref g90)))
    (l90 : K.lookup g90 = some ⟨oc90, od90, .func (PySem.W.fnOf "check_drawn" "check_drawn" (defArgs sChD) (defBody sChD) (defScope sChD) .none kV90 dc90 pm90 an90 cd90 ct90), sl90⟩)
    (c90d : PySem.W.codeIn K cd90 "check_drawn" = true)
    (k90 : PySem.W.keepIn K (.ref g90) = true)
    (a91 : PySem.W.nsIn K mainGlobals "sheet_of" = some (some (.ref g91)))
    (l91 : K.lookup g91 = some ⟨oc91, od91, .func (PySem.W.fnOf "sheet_of" "sheet_of" (defArgs sShO) (defBody sShO) (defScope sShO) .none kV91 dc91 pm91 an91 cd91 ct91), sl91⟩)
    (c91d : PySem.W.codeIn K cd91 "sheet_of" = true)
    (k91 : PySem.W.keepIn K (.ref g91) = true)
    (a94 : PySem.W.nsIn K mainGlobals "area" = some (some (.ref g94)))
    (l94 : K.lookup g94 = some ⟨oc94, od94, .func (PySem.W.fnOf "area" "area" (defArgs sAre) (defBody sAre) (defScope sAre) .none kV94 dc94 pm94 an94 cd94 ct94), sl94⟩)
    (c94d : PySem.W.codeIn K cd94 "area" = true)
    (k94 : PySem.W.keepIn K (.ref g94) = true)
    (a95 : PySem.W.nsIn K mainGlobals "filled" = some (some (.ref g95)))
    (l95 : K.lookup g95 = some ⟨oc95, od95, .func (PySem.W.fnOf "filled" "filled" (defArgs sFil) (defBody sFil) (defScope sFil) .none kV95 dc95 pm95 an95 cd95 ct95), sl95⟩)
    (c95d : PySem.W.codeIn K cd95 "filled" = true)
    (k95 : PySem.W.keepIn K (.ref g95) = true)
    (a96 : PySem.W.nsIn K mainGlobals "line" = some (some (.ref g96)))
    (l96 : K.lookup g96 = some ⟨oc96, od96, .func (PySem.W.fnOf "line" "line" (defArgs sLin) (defBody sLin) (defScope sLin) .none kV96 dc96 pm96 an96 cd96 ct96), sl96⟩)
    (c96d : PySem.W.codeIn K cd96 "line" = true)
    (k96 : PySem.W.keepIn K (.ref g96) = true)
    (a97 : PySem.W.nsIn K mainGlobals "dots" = some (some (.ref g97)))
    (l97 : K.lookup g97 = some ⟨oc97, od97, .func (PySem.W.fnOf "dots" "dots" (defArgs sDot) (defBody sDot) (defScope sDot) .none kV97 dc97 pm97 an97 cd97 ct97), sl97⟩)
    (c97d : PySem.W.codeIn K cd97 "dots" = true)
    (k97 : PySem.W.keepIn K (.ref g97) = true)
    (a98 : PySem.W.nsIn K mainGlobals "empty" = some (some (.ref g98)))
    (l98 : K.lookup g98 = some ⟨oc98, od98, .func (PySem.W.fnOf "empty" "empty" (defArgs sEmp) (defBody sEmp) (defScope sEmp) .none kV98 dc98 pm98 an98 cd98 ct98), sl98⟩)
    (c98d : PySem.W.codeIn K cd98 "empty" = true)
    (k98 : PySem.W.keepIn K (.ref g98) = true)
    (a99 : PySem.W.nsIn K mainGlobals "place" = some (some (.ref g99)))
    (l99 : K.lookup g99 = some ⟨oc99, od99, .func (PySem.W.fnOf "place" "place" (defArgs sPlc) (defBody sPlc) (defScope sPlc) .none kV99 dc99 pm99 an99 cd99 ct99), sl99⟩)
    (c99d : PySem.W.codeIn K cd99 "place" = true)
    (k99 : PySem.W.keepIn K (.ref g99) = true)
    (a100 : PySem.W.nsIn K mainGlobals "border" = some (some (.ref g100)))
    (l100 : K.lookup g100 = some ⟨oc100, od100, .func (PySem.W.fnOf "border" "border" (defArgs s_border) (defBody s_border) (defScope s_border) .none kV100 dc100 pm100 an100 cd100 ct100), sl100⟩)
    (c100d : PySem.W.codeIn K cd100 "border" = true)
    (k100 : PySem.W.keepIn K (.ref g100) = true)
    (a101 : PySem.W.nsIn K mainGlobals "body" = some (some (.ref g101)))
    (l101 : K.lookup g101 = some ⟨oc101, od101, .func (PySem.W.fnOf "body" "body" (defArgs s_body) (defBody s_body) (defScope s_body) .none kV101 dc101 pm101 an101 cd101 ct101), sl101⟩)
    (c101d : PySem.W.codeIn K cd101 "body" = true)
    (k101 : PySem.W.keepIn K (.ref g101) = true)
    (a102 : PySem.W.nsIn K mainGlobals "lines" = some (some (.ref g102)))
    (l102 : K.lookup g102 = some ⟨oc102, od102, .func (PySem.W.fnOf "lines" "lines" (defArgs s_lines) (defBody s_lines) (defScope s_lines) .none kV102 dc102 pm102 an102 cd102 ct102), sl102⟩)
    (c102d : PySem.W.codeIn K cd102 "lines" = true)
    (k102 : PySem.W.keepIn K (.ref g102) = true)
    (a103 : PySem.W.nsIn K mainGlobals "lone" = some (some (.ref g103)))
    (l103 : K.lookup g103 = some ⟨oc103, od103, .func (PySem.W.fnOf "lone" "lone" (defArgs s_lone) (defBody s_lone) (defScope s_lone) .none kV103 dc103 pm103 an103 cd103 ct103), sl103⟩)
    (c103d : PySem.W.codeIn K cd103 "lone" = true)
    (k103 : PySem.W.keepIn K (.ref g103) = true)
    (a104 : PySem.W.nsIn K mainGlobals "parts" = some (some (.ref g104)))
    (l104 : K.lookup g104 = some ⟨oc104, od104, .func (PySem.W.fnOf "parts" "parts" (defArgs s_parts) (defBody s_parts) (defScope s_parts) .none kV104 dc104 pm104 an104 cd104 ct104), sl104⟩)
    (c104d : PySem.W.codeIn K cd104 "parts" = true)
    (k104 : PySem.W.keepIn K (.ref g104) = true)
    (a105 : PySem.W.nsIn K mainGlobals "area_shapes" = some (some (.ref g105)))
    (l105 : K.lookup g105 = some ⟨oc105, od105, .func (PySem.W.fnOf "area_shapes" "area_shapes" (defArgs s_area_shapes) (defBody s_area_shapes) (defScope s_area_shapes) .none kV105 dc105 pm105 an105 cd105 ct105), sl105⟩)
    (c105d : PySem.W.codeIn K cd105 "area_shapes" = true)
    (k105 : PySem.W.keepIn K (.ref g105) = true)
    (a106 : PySem.W.nsIn K mainGlobals "without_holes" = some (some (.ref g106)))
    (l106 : K.lookup g106 = some ⟨oc106, od106, .func (PySem.W.fnOf "without_holes" "without_holes" (defArgs s_without_holes) (defBody s_without_holes) (defScope s_without_holes) .none kV106 dc106 pm106 an106 cd106 ct106), sl106⟩)
    (c106d : PySem.W.codeIn K cd106 "without_holes" = true)
    (k106 : PySem.W.keepIn K (.ref g106) = true)
    (a107 : PySem.W.nsIn K mainGlobals "knots" = some (some (.ref g107)))
    (l107 : K.lookup g107 = some ⟨oc107, od107, .func (PySem.W.fnOf "knots" "knots" (defArgs s_knots) (defBody s_knots) (defScope s_knots) .none kV107 dc107 pm107 an107 cd107 ct107), sl107⟩)
    (c107d : PySem.W.codeIn K cd107 "knots" = true)
    (k107 : PySem.W.keepIn K (.ref g107) = true)
    (a108 : PySem.W.nsIn K mainGlobals "ring_flaws" = some (some (.ref g108)))
    (l108 : K.lookup g108 = some ⟨oc108, od108, .func (PySem.W.fnOf "ring_flaws" "ring_flaws" (defArgs sRfl) (defBody sRfl) (defScope sRfl) .none kV108 dc108 pm108 an108 cd108 ct108), sl108⟩)
    (c108d : PySem.W.codeIn K cd108 "ring_flaws" = true)
    (k108 : PySem.W.keepIn K (.ref g108) = true)
    (a109 : PySem.W.nsIn K mainGlobals "is_form" = some (some (.ref g109)))
    (l109 : K.lookup g109 = some ⟨oc109, od109, .func (PySem.W.fnOf "is_form" "is_form" (defArgs sIfo) (defBody sIfo) (defScope sIfo) .none kV109 dc109 pm109 an109 cd109 ct109), sl109⟩)
    (c109d : PySem.W.codeIn K cd109 "is_form" = true)
    (k109 : PySem.W.keepIn K (.ref g109) = true)
    (a111 : PySem.W.nsIn K mainGlobals "_law_bag" = some (some (.ref g111)))
    (l111 : K.lookup g111 = some ⟨oc111, od111, .func (PySem.W.fnOf "_law_bag" "_law_bag" (defArgs sBag) (defBody sBag) (defScope sBag) .none kV111 dc111 pm111 an111 cd111 ct111), sl111⟩)
    (c111d : PySem.W.codeIn K cd111 "_law_bag" = true)
    (k111 : PySem.W.keepIn K (.ref g111) = true)
    (a112 : PySem.W.nsIn K mainGlobals "_law_draw" = some (some (.ref g112)))
    (l112 : K.lookup g112 = some ⟨oc112, od112, .func (PySem.W.fnOf "_law_draw" "_law_draw" (defArgs sDraw) (defBody sDraw) (defScope sDraw) .none kV112 dc112 pm112 an112 cd112 ct112), sl112⟩)
    (c112d : PySem.W.codeIn K cd112 "_law_draw" = true)
    (k112 : PySem.W.keepIn K (.ref g112) = true)
    (a113 : PySem.W.nsIn K mainGlobals "_law_one_of" = some (some (.ref g113)))
    (l113 : K.lookup g113 = some ⟨oc113, od113, .func (PySem.W.fnOf "_law_one_of" "_law_one_of" (defArgs sOne) (defBody sOne) (defScope sOne) .none kV113 dc113 pm113 an113 cd113 ct113), sl113⟩)
    (c113d : PySem.W.codeIn K cd113 "_law_one_of" = true)
    (k113 : PySem.W.keepIn K (.ref g113) = true)
    (a114 : PySem.W.nsIn K mainGlobals "_law_said" = some (some (.ref g114)))
    (l114 : K.lookup g114 = some ⟨oc114, od114, .func (PySem.W.fnOf "_law_said" "_law_said" (defArgs sSd) (defBody sSd) (defScope sSd) .none kV114 dc114 pm114 an114 cd114 ct114), sl114⟩)
    (c114d : PySem.W.codeIn K cd114 "_law_said" = true)
    (k114 : PySem.W.keepIn K (.ref g114) = true)
    (a115 : PySem.W.nsIn K mainGlobals "_law_told_wrong" = some (some (.ref g115)))
    (l115 : K.lookup g115 = some ⟨oc115, od115, .func (PySem.W.fnOf "_law_told_wrong" "_law_told_wrong" (defArgs sTw) (defBody sTw) (defScope sTw) .none kV115 dc115 pm115 an115 (.ref cA) ct115), sl115⟩)
    (c115d : PySem.W.codeIn K (.ref cA) "_law_told_wrong" = true)
    (k115 : PySem.W.keepIn K (.ref g115) = true)
    (a116 : PySem.W.nsIn K mainGlobals "_law_rows_wrong" = some (some (.ref g116)))
    (l116 : K.lookup g116 = some ⟨oc116, od116, .func (PySem.W.fnOf "_law_rows_wrong" "_law_rows_wrong" (defArgs sRw) (defBody sRw) (defScope sRw) .none kV116 dc116 pm116 an116 (.ref cB) ct116), sl116⟩)
    (c116d : PySem.W.codeIn K (.ref cB) "_law_rows_wrong" = true)
    (k116 : PySem.W.keepIn K (.ref g116) = true)
    (a117 : PySem.W.nsIn K mainGlobals "_law_shapes_wrong" = some (some (.ref g117)))
    (l117 : K.lookup g117 = some ⟨oc117, od117, .func (PySem.W.fnOf "_law_shapes_wrong" "_law_shapes_wrong" (defArgs sSw) (defBody sSw) (defScope sSw) .none kV117 dc117 pm117 an117 (.ref cC) ct117), sl117⟩)
    (c117d : PySem.W.codeIn K (.ref cC) "_law_shapes_wrong" = true)
    (k117 : PySem.W.keepIn K (.ref g117) = true)
    (a118 : PySem.W.nsIn K mainGlobals "_law_few" = some (some (.ref g118)))
    (l118 : K.lookup g118 = some ⟨oc118, od118, .func (PySem.W.fnOf "_law_few" "_law_few" (defArgs sFw) (defBody sFw) (defScope sFw) .none kV118 dc118 pm118 an118 (.ref cD) ct118), sl118⟩)
    (c118d : PySem.W.codeIn K (.ref cD) "_law_few" = true)
    (k118 : PySem.W.keepIn K (.ref g118) = true)
    (a119 : PySem.W.nsIn K mainGlobals "_law_right" = some (some (.ref g119)))
    (l119 : K.lookup g119 = some ⟨oc119, od119, .func (PySem.W.fnOf "_law_right" "_law_right" (defArgs sRi) (defBody sRi) (defScope sRi) .none kV119 dc119 pm119 an119 (.ref cR) ct119), sl119⟩)
    (c119d : PySem.W.codeIn K (.ref cR) "_law_right" = true)
    (k119 : PySem.W.keepIn K (.ref g119) = true)
    (a120 : PySem.W.nsIn K mainGlobals "law" = some (some (.ref g120)))
    (l120 : K.lookup g120 = some ⟨oc120, od120, .func (PySem.W.fnOf "law" "law" (defArgs sLaw) (defBody sLaw) (defScope sLaw) .none kV120 dc120 pm120 an120 cd120 ct120), sl120⟩)
    (c120d : PySem.W.codeIn K cd120 "law" = true)
    (k120 : PySem.W.keepIn K (.ref g120) = true)
    (aMWI : PySem.W.findIn K (.ref CW) "__init__" = some (some (.ref gMWI)))
    (iMWI : PySem.W.isFn K (.ref gMWI) = true)
    (lMWI : K.lookup gMWI = some ⟨ocMWI, odMWI, .func (PySem.W.fnOf "__init__" "Web.__init__" (defArgs sWI) (defBody sWI) (defScope sWI) .none kVMWI dcMWI pmMWI anMWI cdMWI ctMWI), slMWI⟩)
    (cMWId : PySem.W.codeIn K cdMWI "Web.__init__" = true)
    (kMWI : PySem.W.keepIn K (.ref gMWI) = true)
    (aMTd : PySem.W.findIn K (.ref CW) "_turned" = some (some (.ref gMTd)))
    (iMTd : PySem.W.isFn K (.ref gMTd) = true)
    (lMTd : K.lookup gMTd = some ⟨ocMTd, odMTd, .func (PySem.W.fnOf "_turned" "Web._turned" (defArgs sTd) (defBody sTd) (defScope sTd) .none kVMTd dcMTd pmMTd anMTd cdMTd ctMTd), slMTd⟩)
    (cMTdd : PySem.W.codeIn K cdMTd "Web._turned" = true)
    (kMTd : PySem.W.keepIn K (.ref gMTd) = true)
    (aMGa : PySem.W.findIn K (.ref CW) "_gathered" = some (some (.ref gMGa)))
    (iMGa : PySem.W.isFn K (.ref gMGa) = true)
    (lMGa : K.lookup gMGa = some ⟨ocMGa, odMGa, .func (PySem.W.fnOf "_gathered" "Web._gathered" (defArgs sGa) (defBody sGa) (defScope sGa) .none kVMGa dcMGa pmMGa anMGa cdMGa ctMGa), slMGa⟩)
    (cMGad : PySem.W.codeIn K cdMGa "Web._gathered" = true)
    (kMGa : PySem.W.keepIn K (.ref gMGa) = true)
    (aMFo : PySem.W.findIn K (.ref CW) "_followed" = some (some (.ref gMFo)))
    (iMFo : PySem.W.isFn K (.ref gMFo) = true)
    (lMFo : K.lookup gMFo = some ⟨ocMFo, odMFo, .func (PySem.W.fnOf "_followed" "Web._followed" (defArgs sFo) (defBody sFo) (defScope sFo) .none kVMFo dcMFo pmMFo anMFo cdMFo ctMFo), slMFo⟩)
    (cMFod : PySem.W.codeIn K cdMFo "Web._followed" = true)
    (kMFo : PySem.W.keepIn K (.ref gMFo) = true)
    (aMSee : PySem.W.findIn K (.ref CW) "_see_part" = some (some (.ref gMSee)))
    (iMSee : PySem.W.isFn K (.ref gMSee) = true)
    (lMSee : K.lookup gMSee = some ⟨ocMSee, odMSee, .func (PySem.W.fnOf "_see_part" "Web._see_part" (defArgs sSee) (defBody sSee) (defScope sSee) .none kVMSee dcMSee pmMSee anMSee cdMSee ctMSee), slMSee⟩)
    (cMSeed : PySem.W.codeIn K cdMSee "Web._see_part" = true)
    (kMSee : PySem.W.keepIn K (.ref gMSee) = true)
    (aMFS1 : PySem.W.findIn K (.ref CW) "_first_spots" = some (some (.ref gMFS1)))
    (iMFS1 : PySem.W.isFn K (.ref gMFS1) = true)
    (lMFS1 : K.lookup gMFS1 = some ⟨ocMFS1, odMFS1, .func (PySem.W.fnOf "_first_spots" "Web._first_spots" (defArgs sFS1) (defBody sFS1) (defScope sFS1) .none kVMFS1 dcMFS1 pmMFS1 anMFS1 cdMFS1 ctMFS1), slMFS1⟩)
    (cMFS1d : PySem.W.codeIn K cdMFS1 "Web._first_spots" = true)
    (kMFS1 : PySem.W.keepIn K (.ref gMFS1) = true)
    (aMRP : PySem.W.findIn K (.ref CW) "room_of_point" = some (some (.ref gMRP)))
    (iMRP : PySem.W.isFn K (.ref gMRP) = true)
    (lMRP : K.lookup gMRP = some ⟨ocMRP, odMRP, .func (PySem.W.fnOf "room_of_point" "Web.room_of_point" (defArgs sRP) (defBody sRP) (defScope sRP) .none kVMRP dcMRP pmMRP anMRP cdMRP ctMRP), slMRP⟩)
    (cMRPd : PySem.W.codeIn K cdMRP "Web.room_of_point" = true)
    (kMRP : PySem.W.keepIn K (.ref gMRP) = true)
    (aMSe : PySem.W.findIn K (.ref CW) "_settle_rooms" = some (some (.ref gMSe)))
    (iMSe : PySem.W.isFn K (.ref gMSe) = true)
    (lMSe : K.lookup gMSe = some ⟨ocMSe, odMSe, .func (PySem.W.fnOf "_settle_rooms" "Web._settle_rooms" (defArgs sSe) (defBody sSe) (defScope sSe) .none kVMSe dcMSe pmMSe anMSe cdMSe ctMSe), slMSe⟩)
    (cMSed : PySem.W.codeIn K cdMSe "Web._settle_rooms" = true)
    (kMSe : PySem.W.keepIn K (.ref gMSe) = true)
    (aMRA : PySem.W.findIn K (.ref CW) "room_around" = some (some (.ref gMRA)))
    (iMRA : PySem.W.isFn K (.ref gMRA) = true)
    (lMRA : K.lookup gMRA = some ⟨ocMRA, odMRA, .func (PySem.W.fnOf "room_around" "Web.room_around" (defArgs sRA) (defBody sRA) (defScope sRA) .none kVMRA dcMRA pmMRA anMRA cdMRA ctMRA), slMRA⟩)
    (cMRAd : PySem.W.codeIn K cdMRA "Web.room_around" = true)
    (kMRA : PySem.W.keepIn K (.ref gMRA) = true)
    (aMGI : PySem.W.findIn K (.ref CG) "__init__" = some (some (.ref gMGI)))
    (iMGI : PySem.W.isFn K (.ref gMGI) = true)
    (lMGI : K.lookup gMGI = some ⟨ocMGI, odMGI, .func (PySem.W.fnOf "__init__" "Groups.__init__" (defArgs sGI) (defBody sGI) (defScope sGI) .none kVMGI dcMGI pmMGI anMGI cdMGI ctMGI), slMGI⟩)
    (cMGId : PySem.W.codeIn K cdMGI "Groups.__init__" = true)
    (kMGI : PySem.W.keepIn K (.ref gMGI) = true)
    (aMSI : PySem.W.findIn K (.ref CS) "__init__" = some (some (.ref gMSI)))
    (iMSI : PySem.W.isFn K (.ref gMSI) = true)
    (lMSI : K.lookup gMSI = some ⟨ocMSI, odMSI, .func (PySem.W.fnOf "__init__" "Shape.__init__" (defArgs sSI) (defBody sSI) (defScope sSI) .none kVMSI dcMSI pmMSI anMSI cdMSI ctMSI), slMSI⟩)
    (cMSId : PySem.W.codeIn K cdMSI "Shape.__init__" = true)
    (kMSI : PySem.W.keepIn K (.ref gMSI) = true)
    (aMTk : PySem.W.findIn K (.ref CS) "_take_form" = some (some (.ref gMTk)))
    (iMTk : PySem.W.isFn K (.ref gMTk) = true)
    (lMTk : K.lookup gMTk = some ⟨ocMTk, odMTk, .func (PySem.W.fnOf "_take_form" "Shape._take_form" (defArgs sTk) (defBody sTk) (defScope sTk) .none kVMTk dcMTk pmMTk anMTk cdMTk ctMTk), slMTk⟩)
    (cMTkd : PySem.W.codeIn K cdMTk "Shape._take_form" = true)
    (kMTk : PySem.W.keepIn K (.ref gMTk) = true)
    (z_isinstance : PySem.W.nsIn K mainGlobals "isinstance" = some none)
    (z_int : PySem.W.nsIn K mainGlobals "int" = some none)
    (z_bool : PySem.W.nsIn K mainGlobals "bool" = some none)
    (z_str : PySem.W.nsIn K mainGlobals "str" = some none)
    (z_tuple : PySem.W.nsIn K mainGlobals "tuple" = some none)
    (z_dict : PySem.W.nsIn K mainGlobals "dict" = some none)
    (z_list : PySem.W.nsIn K mainGlobals "list" = some none)
    (z_len : PySem.W.nsIn K mainGlobals "len" = some none)
    (z_all : PySem.W.nsIn K mainGlobals "all" = some none)
    (z_sorted : PySem.W.nsIn K mainGlobals "sorted" = some none)
    (z_range : PySem.W.nsIn K mainGlobals "range" = some none)
    (z_max : PySem.W.nsIn K mainGlobals "max" = some none)
    (z_min : PySem.W.nsIn K mainGlobals "min" = some none)
    (z_repr : PySem.W.nsIn K mainGlobals "repr" = some none)
    (z_sum : PySem.W.nsIn K mainGlobals "sum" = some none)
    (z_abs : PySem.W.nsIn K mainGlobals "abs" = some none)
    (z_enumerate : PySem.W.nsIn K mainGlobals "enumerate" = some none)
    (z_zip : PySem.W.nsIn K mainGlobals "zip" = some none)
    (z_any : PySem.W.nsIn K mainGlobals "any" = some none)
    (z_set : PySem.W.nsIn K mainGlobals "set" = some none)
    (ccA : K.lookup cA = some ⟨.type "code", odA, .fields vA, slA⟩)
    (cpA : vA[11]? = some (.ref pA))
    (chA : PySem.W.codeHdIn K cA pA = true)
    (cnA : K.lookup pA = none)
    (ctA : h.get? pA = some { cls := .none, data := .fields #[] })
    (ccB : K.lookup cB = some ⟨.type "code", odB, .fields vB, slB⟩)
    (cpB : vB[11]? = some (.ref pB))
    (chB : PySem.W.codeHdIn K cB pB = true)
    (cnB : K.lookup pB = none)
    (ctB : h.get? pB = some { cls := .none, data := .fields #[] })
    (ccC : K.lookup cC = some ⟨.type "code", odC, .fields vC, slC⟩)
    (cpC : vC[11]? = some (.ref pC))
    (chC : PySem.W.codeHdIn K cC pC = true)
    (cnC : K.lookup pC = none)
    (ctC : h.get? pC = some { cls := .none, data := .fields #[] })
    (ccD : K.lookup cD = some ⟨.type "code", odD, .fields vD, slD⟩)
    (cpD : vD[11]? = some (.ref pD))
    (chD : PySem.W.codeHdIn K cD pD = true)
    (cnD : K.lookup pD = none)
    (ctD : h.get? pD = some { cls := .none, data := .fields #[] })
    (ccR : K.lookup cR = some ⟨.type "code", odR, .fields vR, slR⟩)
    (cpR : vR[11]? = some (.ref pR))
    (chR : PySem.W.codeHdIn K cR pR = true)
    (cnR : K.lookup pR = none)
    (ctR : h.get? pR = some { cls := .none, data := .fields #[] })
    (nd : [pA, pB, pC, pD, pR].Nodup)
    : ∃ fd cs sp, EndT l w K mg 18 63 "script" fa h fd cs sp := by
  have e := hfa.symm.trans (PySem.W.mg_of XX GG a120)
  cases e
  have mgn : ∀ {x : Str}, PySem.W.nsIn K mainGlobals x = some none → mg x = none := fun e => PySem.W.mg_none_of XX GG e
  have TB1 : TB mg := ⟨mgn z_len, mgn z_sum, mgn z_int, mgn z_abs, mgn z_max, mgn z_range, mgn z_list⟩
  have TN1 : TN mg := ⟨mgn z_isinstance, mgn z_int, mgn z_bool, mgn z_str, mgn z_tuple, mgn z_dict, mgn z_list, mgn z_len, mgn z_all, mgn z_sorted, mgn z_range, mgn z_max, mgn z_min, mgn z_repr, PySem.W.mg_of XX GG gc0⟩
  have TN3 : TN2 mg := ⟨mgn z_enumerate, mgn z_zip, mgn z_any, mgn z_set, mgn z_sum, mgn z_abs⟩
  have CLS : Cls K CS := ⟨pgS, hdS, poS, saS⟩
  have FS : SC K mg CS := ⟨CLS, PySem.W.mg_of XX GG aCS, nS0, nS1, nS2⟩
  have CLW : Cls K CW := ⟨pgW, hdW, poW, saW⟩
  have FW : WC K mg CW := ⟨CLW, PySem.W.mg_of XX GG aCW, nW0, nW1, nW2, nW3, nW4, nW5, nW6, nW7, nW8, nW9, nW10, nW11, nW12, nW13, nW14, nW15, nW16, nW17, nW18, nW19, nW20⟩
  have CLG : Cls K CG := ⟨pgG, hdG, poG, saG⟩
  have FG : GC K CG := ⟨CLG, nG0⟩
  have IS : C8.InsC K CS := ⟨CLS, iha, ihn, ihtk, ihm, ime⟩
  have NS1 : NoI K CS := fun k => match k with | .non => ksnon | .bl => ksbl | .int => ksint | .str => ksstr | .lst => kslst | .tup => kstup | .dct => ksdct
  have NP1 : NoP K CS := ⟨nop0, nop1, nop2⟩
  have g200 := PySem.W.mg_of XX GG g_MAX
  have ES : ErrE "InvalidShape" K mg cT := ⟨PT, PySem.W.mg_of XX GG AT, KT, ST, TT⟩
  have EP1 : ErrE "InvalidPoint" K mg cP := ⟨PP, PySem.W.mg_of XX GG AP, KP, SP, TP⟩
  have oM : OwnTxt K cM fIM ovT "OverflowError.__new__" := own_of XM (show PySem.W.excTail ovT [.type "OverflowError", .type "ArithmeticError", .type "Exception", .type "BaseException", .type "object"] = true by decide +kernel) SM EM GM HM IM FM KM TM YM
  have NM : NumE "TooMany" "limit" l.prog w K mg cM := ⟨PySem.W.mg_of XX GG AM, ⟨fIM, "OverflowError.__new__", _, ovT, oM, ⟨_, _, PySem.F.excBase_OverflowError⟩, ⟨rfl, rfl, rfl⟩, keeps_limit PySem.F.store_OverflowError oM NMx ⟨_, _, _, _, _, _, _, _, _, _, LM, DM, ⟨_, _, rfl⟩, ⟨_, _, _, _, rfl⟩⟩⟩, NMx⟩
  have EX1 : Exm K ⟨cT, cP, cM⟩ := ⟨exm_of ST TT xTT, exm_of ST TT xPT, exm_of SP TP xPP, exm_of SP TP xMP, exm_of ST TT xMT, exm_of SM TM xMM⟩
  have g20_ := PySem.W.mg_of XX GG a20
  have F20_ := fun_mk (st := sIsInt) l20 c20d k20
  have b20_ := F20_.binds (ps := ["value"]) fun _ _ _ _ _ _ us hl => match us, hl with | [_], _ => rfl
  have g22_ := PySem.W.mg_of XX GG a22
  have F22_ := fun_mk (st := sFB) l22 c22d k22
  have b22_ := F22_.binds (ps := ["bottoms"]) fun _ _ _ _ _ _ us hl => match us, hl with | [_], _ => rfl
  have g23_ := PySem.W.mg_of XX GG a23
  have F23_ := fun_mk (st := sStO) l23 c23d k23
  have b23_ := F23_.binds (ps := ["points"]) fun _ _ _ _ _ _ us hl => match us, hl with | [_], _ => rfl
  have g24_ := PySem.W.mg_of XX GG a24
  have F24_ := fun_mk (st := sFS) l24 c24d k24
  have b24_ := F24_.binds (ps := ["fractions"]) fun _ _ _ _ _ _ us hl => match us, hl with | [_], _ => rfl
  have g25_ := PySem.W.mg_of XX GG a25
  have F25_ := fun_mk (st := sSR) l25 c25d k25
  have b25_ := F25_.binds (ps := ["ways"]) fun _ _ _ _ _ _ us hl => match us, hl with | [_], _ => rfl
  have g27_ := PySem.W.mg_of XX GG a27
  have F27_ := fun_mk (st := sIsPt) l27 c27d k27
  have b27_ := F27_.binds (ps := ["value"]) fun _ _ _ _ _ _ us hl => match us, hl with | [_], _ => rfl
  have g32_ := PySem.W.mg_of XX GG a32
  have F32_ := fun_mk (st := sFo2) l32 c32d k32
  have b32_ := F32_.binds (ps := ["web", "spots_in", "ties_in", "rooms_in"]) fun _ _ _ _ _ _ us hl => match us, hl with | [_, _, _, _], _ => rfl
  have g33_ := PySem.W.mg_of XX GG a33
  have F33_ := fun_mk (st := sPo) l33 c33d k33
  have b33_ := F33_.binds (ps := ["web", "ties"]) fun _ _ _ _ _ _ us hl => match us, hl with | [_, _], _ => rfl
  have g35_ := PySem.W.mg_of XX GG a35
  have F35_ := fun_mk (st := sAr) l35 c35d k35
  have b35_ := F35_.binds (ps := ["web", "owners"]) fun _ _ _ _ _ _ us hl => match us, hl with | [_, _], _ => rfl
  have g36_ := PySem.W.mg_of XX GG a36
  have F36_ := fun_mk (st := sOw) l36 c36d k36
  have b36_ := F36_.binds (ps := ["web", "rooms_in"]) fun _ _ _ _ _ _ us hl => match us, hl with | [_, _], _ => rfl
  have g42_ := PySem.W.mg_of XX GG a42
  have F42_ := fun_mk (st := sAl) l42 c42d k42
  have b42_ := F42_.binds (ps := ["web", "spot", "threads", "rooms_in"]) fun _ _ _ _ _ _ us hl => match us, hl with | [_, _, _, _], _ => rfl
  have g44_ := PySem.W.mg_of XX GG a44
  have F44_ := fun_mk (st := sCut) l44 c44d k44
  have b44_ := F44_.binds (ps := ["sides", "points"]) fun _ _ _ _ _ _ us hl => match us, hl with | [_, _], _ => rfl
  have g45_ := PySem.W.mg_of XX GG a45
  have F45_ := fun_mk (st := sPOS) l45 c45d k45
  have b45_ := F45_.binds (ps := ["sides", "points"]) fun _ _ _ _ _ _ us hl => match us, hl with | [_, _], _ => rfl
  have g47_ := PySem.W.mg_of XX GG a47
  have F47_ := fun_mk (st := sHB) l47 c47d k47
  have b47_ := F47_.binds (ps := ["web", "point"]) fun _ _ _ _ _ _ us hl => match us, hl with | [_, _], _ => rfl
  have g51_ := PySem.W.mg_of XX GG a51
  have F51_ := fun_mk (st := sLk) l51 c51d k51
  have b51_ := F51_.binds (ps := ["chains"]) fun _ _ _ _ _ _ us hl => match us, hl with | [_], _ => rfl
  have g52_ := PySem.W.mg_of XX GG a52
  have F52_ := fun_mk (st := sWk) l52 c52d k52
  have b52_ := F52_.binds (ps := ["after"]) fun _ _ _ _ _ _ us hl => match us, hl with | [_], _ => rfl
  have g54_ := PySem.W.mg_of XX GG a54
  have F54_ := fun_mk (st := sRS) l54 c54d k54
  have b54_ := F54_.binds (ps := ["ring"]) fun _ _ _ _ _ _ us hl => match us, hl with | [_], _ => rfl
  have g55_ := PySem.W.mg_of XX GG a55
  have F55_ := fun_mk (st := sFl) l55 c55d k55
  have b55_ := F55_.binds (ps := ["web", "flips"]) fun _ _ _ _ _ _ us hl => match us, hl with | [_, _], _ => rfl
  have g64_ := PySem.W.mg_of XX GG a64
  have F64_ := fun_mk (st := sCor) l64 c64d k64
  have b64_ := F64_.binds (ps := ["value"]) fun _ _ _ _ _ _ us hl => match us, hl with | [_], _ => rfl
  have g65_ := PySem.W.mg_of XX GG a65
  have F65_ := fun_mk (st := sCors) l65 c65d k65
  have b65_ := F65_.binds (ps := ["value"]) fun _ _ _ _ _ _ us hl => match us, hl with | [_], _ => rfl
  have g66_ := PySem.W.mg_of XX GG a66
  have F66_ := fun_mk (st := sRing) l66 c66d k66
  have b66_ := F66_.binds (ps := ["value"]) fun _ _ _ _ _ _ us hl => match us, hl with | [_], _ => rfl
  have g67_ := PySem.W.mg_of XX GG a67
  have F67_ := fun_mk (st := sArea) l67 c67d k67
  have b67_ := F67_.binds (ps := ["value"]) fun _ _ _ _ _ _ us hl => match us, hl with | [_], _ => rfl
  have g68_ := PySem.W.mg_of XX GG a68
  have F68_ := fun_mk (st := sPiece) l68 c68d k68
  have b68_ := F68_.binds (ps := ["value"]) fun _ _ _ _ _ _ us hl => match us, hl with | [_], _ => rfl
  have g69_ := PySem.W.mg_of XX GG a69
  have F69_ := fun_mk (st := sToldS) l69 c69d k69
  have b69_ := F69_.binds (ps := ["areas", "pieces", "points"]) fun _ _ _ _ _ _ us hl => match us, hl with | [_, _, _], _ => rfl
  have g70_ := PySem.W.mg_of XX GG a70
  have F70_ := fun_mk (st := sTSize) l70 c70d k70
  have b70_ := F70_.binds (ps := ["areas", "pieces", "points"]) fun _ _ _ _ _ _ us hl => match us, hl with | [_, _, _], _ => rfl
  have g71_ := PySem.W.mg_of XX GG a71
  have F71_ := fun_mk (st := sTPt) l71 c71d k71
  have b71_ := F71_.binds (ps := ["corner"]) fun _ _ _ _ _ _ us hl => match us, hl with | [_], _ => rfl
  have g72_ := PySem.W.mg_of XX GG a72
  have F72_ := fun_mk (st := sTPts) l72 c72d k72
  have b72_ := F72_.binds (ps := ["corners"]) fun _ _ _ _ _ _ us hl => match us, hl with | [_], _ => rfl
  have g73_ := PySem.W.mg_of XX GG a73
  have F73_ := fun_mk (st := sTF) l73 c73d k73
  have b73_ := F73_.binds (ps := ["areas", "pieces", "points"]) fun _ _ _ _ _ _ us hl => match us, hl with | [_, _, _], _ => rfl
  have g87_ := PySem.W.mg_of XX GG a87
  have F87_ := fun_mk (st := sSO) l87 c87d k87
  have b87_ := F87_.binds (ps := ["form"]) fun _ _ _ _ _ _ us hl => match us, hl with | [_], _ => rfl
  have g88_ := PySem.W.mg_of XX GG a88
  have F88_ := fun_mk (st := sChS) l88 c88d k88
  have g89_ := PySem.W.mg_of XX GG a89
  have F89_ := fun_mk (st := sCTS) l89 c89d k89
  have b89_ := F89_.binds (ps := ["count"]) fun _ _ _ _ _ _ us hl => match us, hl with | [_], _ => rfl
  have g90_ := PySem.W.mg_of XX GG a90
  have F90_ := fun_mk (st := sChD) l90 c90d k90
  have g91_ := PySem.W.mg_of XX GG a91
  have F91_ := fun_mk (st := sShO) l91 c91d k91
  have g94_ := PySem.W.mg_of XX GG a94
  have F94_ := fun_mk (st := sAre) l94 c94d k94
  have g95_ := PySem.W.mg_of XX GG a95
  have F95_ := fun_mk (st := sFil) l95 c95d k95
  have g96_ := PySem.W.mg_of XX GG a96
  have F96_ := fun_mk (st := sLin) l96 c96d k96
  have g97_ := PySem.W.mg_of XX GG a97
  have F97_ := fun_mk (st := sDot) l97 c97d k97
  have g98_ := PySem.W.mg_of XX GG a98
  have F98_ := fun_mk (st := sEmp) l98 c98d k98
  have b98_ := F98_.binds (ps := []) fun _ _ _ _ _ _ us hl => match us, hl with | [], _ => rfl
  have g99_ := PySem.W.mg_of XX GG a99
  have F99_ := fun_mk (st := sPlc) l99 c99d k99
  have b99_ := F99_.binds (ps := ["shape", "point"]) fun _ _ _ _ _ _ us hl => match us, hl with | [_, _], _ => rfl
  have g100_ := PySem.W.mg_of XX GG a100
  have F100_ := fun_mk (st := s_border) l100 c100d k100
  have b100_ := F100_.binds (ps := ["shape"]) fun _ _ _ _ _ _ us hl => match us, hl with | [_], _ => rfl
  have g101_ := PySem.W.mg_of XX GG a101
  have F101_ := fun_mk (st := s_body) l101 c101d k101
  have b101_ := F101_.binds (ps := ["shape"]) fun _ _ _ _ _ _ us hl => match us, hl with | [_], _ => rfl
  have g102_ := PySem.W.mg_of XX GG a102
  have F102_ := fun_mk (st := s_lines) l102 c102d k102
  have b102_ := F102_.binds (ps := ["shape"]) fun _ _ _ _ _ _ us hl => match us, hl with | [_], _ => rfl
  have g103_ := PySem.W.mg_of XX GG a103
  have F103_ := fun_mk (st := s_lone) l103 c103d k103
  have b103_ := F103_.binds (ps := ["shape"]) fun _ _ _ _ _ _ us hl => match us, hl with | [_], _ => rfl
  have g104_ := PySem.W.mg_of XX GG a104
  have F104_ := fun_mk (st := s_parts) l104 c104d k104
  have b104_ := F104_.binds (ps := ["shape"]) fun _ _ _ _ _ _ us hl => match us, hl with | [_], _ => rfl
  have g105_ := PySem.W.mg_of XX GG a105
  have F105_ := fun_mk (st := s_area_shapes) l105 c105d k105
  have b105_ := F105_.binds (ps := ["shape"]) fun _ _ _ _ _ _ us hl => match us, hl with | [_], _ => rfl
  have g106_ := PySem.W.mg_of XX GG a106
  have F106_ := fun_mk (st := s_without_holes) l106 c106d k106
  have b106_ := F106_.binds (ps := ["shape"]) fun _ _ _ _ _ _ us hl => match us, hl with | [_], _ => rfl
  have g107_ := PySem.W.mg_of XX GG a107
  have F107_ := fun_mk (st := s_knots) l107 c107d k107
  have b107_ := F107_.binds (ps := ["shape"]) fun _ _ _ _ _ _ us hl => match us, hl with | [_], _ => rfl
  have g108_ := PySem.W.mg_of XX GG a108
  have F108_ := fun_mk (st := sRfl) l108 c108d k108
  have b108_ := F108_.binds (ps := ["ring"]) fun _ _ _ _ _ _ us hl => match us, hl with | [_], _ => rfl
  have g109_ := PySem.W.mg_of XX GG a109
  have F109_ := fun_mk (st := sIfo) l109 c109d k109
  have b109_ := F109_.binds (ps := ["value"]) fun _ _ _ _ _ _ us hl => match us, hl with | [_], _ => rfl
  have g111_ := PySem.W.mg_of XX GG a111
  have F111_ := fun_mk (st := sBag) l111 c111d k111
  have b111_ := F111_.binds (ps := ["script", "at"]) fun _ _ _ _ _ _ us hl => match us, hl with | [_, _], _ => rfl
  have g112_ := PySem.W.mg_of XX GG a112
  have F112_ := fun_mk (st := sDraw) l112 c112d k112
  have b112_ := F112_.binds (ps := ["bag", "total"]) fun _ _ _ _ _ _ us hl => match us, hl with | [_, _], _ => rfl
  have g113_ := PySem.W.mg_of XX GG a113
  have F113_ := fun_mk (st := sOne) l113 c113d k113
  have b113_ := F113_.binds (ps := ["bag", "items"]) fun _ _ _ _ _ _ us hl => match us, hl with | [_, _], _ => rfl
  have g114_ := PySem.W.mg_of XX GG a114
  have F114_ := fun_mk (st := sSd) l114 c114d k114
  have b114_ := F114_.binds (ps := ["ask"]) fun _ _ _ _ _ _ us hl => match us, hl with | [_], _ => rfl
  have g115_ := PySem.W.mg_of XX GG a115
  have g116_ := PySem.W.mg_of XX GG a116
  have g117_ := PySem.W.mg_of XX GG a117
  have g118_ := PySem.W.mg_of XX GG a118
  have g119_ := PySem.W.mg_of XX GG a119
  have g120_ := PySem.W.mg_of XX GG a120
  have FMWI_ := fun_mk (st := sWI) lMWI cMWId kMWI
  have bMWI_ := FMWI_.binds (ps := ["self", "sides", "points"]) fun _ _ _ _ _ _ us hl => match us, hl with | [_, _, _], _ => rfl
  have FMTd_ := fun_mk (st := sTd) lMTd cMTdd kMTd
  have bMTd_ := FMTd_.binds (ps := ["self"]) fun _ _ _ _ _ _ us hl => match us, hl with | [_], _ => rfl
  have FMGa_ := fun_mk (st := sGa) lMGa cMGad kMGa
  have bMGa_ := FMGa_.binds (ps := ["self"]) fun _ _ _ _ _ _ us hl => match us, hl with | [_], _ => rfl
  have FMFo_ := fun_mk (st := sFo) lMFo cMFod kMFo
  have bMFo_ := FMFo_.binds (ps := ["self"]) fun _ _ _ _ _ _ us hl => match us, hl with | [_], _ => rfl
  have FMSee_ := fun_mk (st := sSee) lMSee cMSeed kMSee
  have bMSee_ := FMSee_.binds (ps := ["self", "seen", "first"]) fun _ _ _ _ _ _ us hl => match us, hl with | [_, _, _], _ => rfl
  have FMFS1_ := fun_mk (st := sFS1) lMFS1 cMFS1d kMFS1
  have bMFS1_ := FMFS1_.binds (ps := ["self"]) fun _ _ _ _ _ _ us hl => match us, hl with | [_], _ => rfl
  have FMRP_ := fun_mk (st := sRP) lMRP cMRPd kMRP
  have bMRP_ := FMRP_.binds (ps := ["self", "point"]) fun _ _ _ _ _ _ us hl => match us, hl with | [_, _], _ => rfl
  have FMSe_ := fun_mk (st := sSe) lMSe cMSed kMSe
  have bMSe_ := FMSe_.binds (ps := ["self"]) fun _ _ _ _ _ _ us hl => match us, hl with | [_], _ => rfl
  have FMRA_ := fun_mk (st := sRA) lMRA cMRAd kMRA
  have bMRA_ := FMRA_.binds (ps := ["self", "spot"]) fun _ _ _ _ _ _ us hl => match us, hl with | [_, _], _ => rfl
  have FMGI_ := fun_mk (st := sGI) lMGI cMGId kMGI
  have bMGI_ := FMGI_.binds (ps := ["self", "count"]) fun _ _ _ _ _ _ us hl => match us, hl with | [_, _], _ => rfl
  have FMSI_ := fun_mk (st := sSI) lMSI cMSId kMSI
  have bMSI_ := FMSI_.binds (ps := ["self", "areas", "pieces", "points"]) fun _ _ _ _ _ _ us hl => match us, hl with | [_, _, _, _], _ => rfl
  have FMTk_ := fun_mk (st := sTk) lMTk cMTkd kMTk
  have bMTk_ := FMTk_.binds (ps := ["self", "form"]) fun _ _ _ _ _ _ us hl => match us, hl with | [_, _], _ => rfl
  refine ⟨PySem.W.fnOf "law" "law" (defArgs sLaw) (defBody sLaw) (defScope sLaw) .none kV120 dc120 pm120 an120 cd120 ct120, [(cA, pA), (cB, pB), (cC, pC), (cD, pD), (cR, pR)], spLaw K pA pB pC pD pR, ⟨?_, fun s v => .of_eq rfl, fun base _ _ tb => ?_, ?_⟩⟩
  · intro q hq
    simp only [List.mem_cons, List.not_mem_nil, or_false] at hq
    rcases hq with rfl | rfl | rfl | rfl | rfl
    · exact ⟨ctA, cnA, PySem.W.codeHd_of_K XX chA⟩
    · exact ⟨ctB, cnB, PySem.W.codeHd_of_K XX chB⟩
    · exact ⟨ctC, cnC, PySem.W.codeHd_of_K XX chC⟩
    · exact ⟨ctD, cnD, PySem.W.codeHd_of_K XX chD⟩
    · exact ⟨ctR, cnR, PySem.W.codeHd_of_K XX chR⟩
  case refine_3 =>
    intro H a ns hl hT hS
    refine ⟨a, ns, rfl, hS, hl, fun p hp => ?_, fun _ => rfl⟩
    rcases List.mem_cons.mp hp with rfl | hp
    · exact TabS.nil (hT (cA, pA) (.head _))
    rcases List.mem_cons.mp hp with rfl | hp
    · exact TabS.nil (hT (cB, pB) (.tail _ (.head _)))
    rcases List.mem_cons.mp hp with rfl | hp
    · exact TabS.nil (hT (cC, pC) (.tail _ (.tail _ (.head _))))
    rcases List.mem_cons.mp hp with rfl | hp
    · exact TabS.nil (hT (cD, pD) (.tail _ (.tail _ (.tail _ (.head _)))))
    rw [List.mem_singleton.mp hp]
    exact TabS.nil (hT (cR, pR) (.tail _ (.tail _ (.tail _ (.tail _ (.head _))))))
  have tA := tb (cA, pA) (.head _)
  have tB := tb (cB, pB) (.tail _ (.head _))
  have tC := tb (cC, pC) (.tail _ (.tail _ (.head _)))
  have tD := tb (cD, pD) (.tail _ (.tail _ (.tail _ (.head _))))
  have tR := tb (cR, pR) (.tail _ (.tail _ (.tail _ (.tail _ (.head _)))))
  have ndl : ((lamT pA pB pC pD pR).map Prod.fst).Nodup := nd
  have meA : (pA, qT) ∈ lamT pA pB pC pD pR := (.head _)
  have meB : (pB, qO) ∈ lamT pA pB pC pD pR := (.tail _ (.head _))
  have meC : (pC, qS) ∈ lamT pA pB pC pD pR := (.tail _ (.tail _ (.head _)))
  have meD : (pD, qF) ∈ lamT pA pB pC pD pR := (.tail _ (.tail _ (.tail _ (.head _))))
  have meR : (pR, qR) ∈ lamT pA pB pC pD pR := (.tail _ (.tail _ (.tail _ (.tail _ (.head _)))))
  have K1 : Cl l.prog w K mg base 1 "_law_bag" _ := ⟨⟨_, _, _, ok_bag F111_ TB1, g111_, k111, b111_⟩⟩
  have D1 := ok_draw (P := l.prog) (w := w) (base := base) F112_ TB1
  have K2 : Cl l.prog w K mg base 1 "_law_draw" spDraw := ⟨⟨_, _, _, D1, g112_, k112, b112_⟩⟩
  have K3 : Cl l.prog w K mg base 2 "_law_one_of" _ := ⟨⟨_, _, _, ok_one F113_ TB1 D1 b112_ g112_ k112, g113_, k113, b113_⟩⟩
  have K4 : Cl l.prog w K mg base 1 "is_integer" _ := ⟨⟨_, _, _, ok_isint F20_ TN1 NP1 IS, g20_, k20, b20_⟩⟩
  have K5 : Cl l.prog w K mg base 2 "is_point" _ := ⟨⟨_, _, _, ok_ispt F27_ TN1 NP1 IS K4, g27_, k27, b27_⟩⟩
  have K6 : Cl l.prog w K mg base 3 "is_told_corner" _ := ⟨⟨_, _, _, ok_cor F64_ TN1 NP1 IS K5 K4, g64_, k64, b64_⟩⟩
  have K7 : Cl l.prog w K mg base 4 "are_told_corners" _ := ⟨⟨_, _, _, ok_cors F65_ TN1 NP1 IS K6, g65_, k65, b65_⟩⟩
  have K8 : Cl l.prog w K mg base 5 "is_told_ring" _ := ⟨⟨_, _, _, ok_ring F66_ TN1 K7, g66_, k66, b66_⟩⟩
  have K9 : Cl l.prog w K mg base 5 "is_told_piece" _ := ⟨⟨_, _, _, ok_piece F68_ TN1 K7, g68_, k68, b68_⟩⟩
  have K10 : Cl l.prog w K mg base 6 "is_told_area" _ := ⟨⟨_, _, _, ok_area F67_ TN1 NP1 IS K8, g67_, k67, b67_⟩⟩
  have K11 : Cl l.prog w K mg base 7 "is_told_shape" _ := ⟨⟨_, _, _, ok_toldS F69_ TN1 NP1 IS K10 K9 K7, g69_, k69, b69_⟩⟩
  have K12 : Cl l.prog w K mg base 1 "told_point" _ := ⟨⟨_, _, _, ok_tpt F71_ TN1, g71_, k71, b71_⟩⟩
  have K13 : Cl l.prog w K mg base 2 "told_points" _ := ⟨⟨_, _, _, ok_tpts F72_ TN1 K12, g72_, k72, b72_⟩⟩
  have K14 : Cl l.prog w K mg base 1 "told_size" _ := ⟨⟨_, _, _, ok_tsize F70_ TN1 TN3, g70_, k70, b70_⟩⟩
  have K15 : Cl l.prog w K mg base 1 "ring_sides" _ := ⟨⟨_, _, _, ok_rs F54_ TN1, g54_, k54, b54_⟩⟩
  have K16 : Cl l.prog w K mg base 1 "fine_bits" _ := ⟨⟨_, _, _, ok_fb F22_ TB1, g22_, k22, b22_⟩⟩
  have K17 : Cl l.prog w K mg base 2 "fraction_steps" _ := ⟨⟨_, _, _, ok_fs F24_ K16, g24_, k24, b24_⟩⟩
  have K18 : Cl l.prog w K mg base 2 "steps_of" _ := ⟨⟨_, _, _, ok_sto F23_ K16, g23_, k23, b23_⟩⟩
  have K19 : Cl l.prog w K mg base 1 "_points_on_sides" _ := ⟨⟨_, _, _, ok_pos F45_ TN1 TN3, g45_, k45, b45_⟩⟩
  have K20 : Cl l.prog w K mg base 3 "cut" _ := ⟨⟨_, _, _, ok_cut F44_ TN1 TN3 K19 K18, g44_, k44, b44_⟩⟩
  have K21 : Cl l.prog w K mg base 1 "_linked" _ := ⟨⟨_, _, _, ok_lk F51_ TN1 TN3, g51_, k51, b51_⟩⟩
  have K22 : Cl l.prog w K mg base 1 "half_below" _ := ⟨⟨_, _, _, ok_hb F47_ TN1 TN3 FW, g47_, k47, b47_⟩⟩
  have K23 : Cl l.prog w K mg base 1 "_walked" _ := ⟨⟨_, _, _, ok_wk F52_ TN1, g52_, k52, b52_⟩⟩
  have K24 : Cl l.prog w K mg base 3 "slope_ranks" _ := ⟨⟨_, _, _, ok_sr F25_ TN1 TN3 K17, g25_, k25, b25_⟩⟩
  have M_MTd : Mt l.prog w K mg base 4 CW "_turned" _ := ⟨⟨_, _, _, CLW, ⟨aMTd, iMTd, kMTd⟩, ok_td FMTd_ TN3 FW K24, bMTd_⟩⟩
  have M_MGa : Mt l.prog w K mg base 1 CW "_gathered" _ := ⟨⟨_, _, _, CLW, ⟨aMGa, iMGa, kMGa⟩, ok_ga FMGa_ TN1 FW, bMGa_⟩⟩
  have M_MFo : Mt l.prog w K mg base 1 CW "_followed" _ := ⟨⟨_, _, _, CLW, ⟨aMFo, iMFo, kMFo⟩, ok_fo FMFo_ TN1 TN3 FW, bMFo_⟩⟩
  have M_MRP : Mt l.prog w K mg base 2 CW "room_of_point" _ := ⟨⟨_, _, _, CLW, ⟨aMRP, iMRP, kMRP⟩, ok_rp FMRP_ K22, bMRP_⟩⟩
  have M_MSee : Mt l.prog w K mg base 1 CW "_see_part" _ := ⟨⟨_, _, _, CLW, ⟨aMSee, iMSee, kMSee⟩, ok_see FMSee_ FW, bMSee_⟩⟩
  have M_MFS1 : Mt l.prog w K mg base 2 CW "_first_spots" _ := ⟨⟨_, _, _, CLW, ⟨aMFS1, iMFS1, kMFS1⟩, ok_fs1 FMFS1_ TN1 TN3 FW M_MSee, bMFS1_⟩⟩
  have M_MSe : Mt l.prog w K mg base 3 CW "_settle_rooms" _ := ⟨⟨_, _, _, CLW, ⟨aMSe, iMSe, kMSe⟩, ok_se FMSe_ TN1 FW M_MRP, bMSe_⟩⟩
  have M_MRA : Mt l.prog w K mg base 1 CW "room_around" _ := ⟨⟨_, _, _, CLW, ⟨aMRA, iMRA, kMRA⟩, ok_ra FMRA_ FW, bMRA_⟩⟩
  have Q_MWI : Mq l.prog w K mg base 5 "Web" CW _ := ⟨⟨_, _, _, PySem.W.mg_of XX GG aCW, ⟨mkW, aMWI, iMWI, kCW⟩, ok_wi FMWI_ TN1 TN3 FW K20 K21 K23 M_MTd M_MGa M_MFo M_MFS1 M_MSe, bMWI_⟩⟩
  have K25 : Cl l.prog w K mg base 1 "flooded" _ := ⟨⟨_, _, _, ok_fl F55_ FW, g55_, k55, b55_⟩⟩
  have Q_MGI : Mq l.prog w K mg base 1 "Groups" CG _ := ⟨⟨_, _, _, PySem.W.mg_of XX GG aCG, ⟨mkG, aMGI, iMGI, kCG⟩, ok_gi FMGI_ TN1 FG, bMGI_⟩⟩
  have K26 : Cl l.prog w K mg base 3 "_owners" _ := ⟨⟨_, _, _, ok_ow F36_ TN1 FW Q_MGI, g36_, k36, b36_⟩⟩
  have K27 : Cl l.prog w K mg base 1 "_areas" _ := ⟨⟨_, _, _, ok_ar F35_ TN1 FW, g35_, k35, b35_⟩⟩
  have K28 : Cl l.prog w K mg base 1 "pieces_of" _ := ⟨⟨_, _, _, ok_po F33_ TN1, g33_, k33, b33_⟩⟩
  have K29 : Cl l.prog w K mg base 2 "_is_alone" _ := ⟨⟨_, _, _, ok_al F42_ TN3 FW M_MRA, g42_, k42, b42_⟩⟩
  have K30 : Cl l.prog w K mg base 4 "form_of" _ := ⟨⟨_, _, _, ok_fm F32_ TN1 FW K27 K26 K28 K29, g32_, k32, b32_⟩⟩
  have K31 : ClX l.prog w K mg base 2 "check_told_size" _ := ⟨⟨_, _, _, ok_cts F89_ g200 NM, g89_, k89, b89_⟩⟩
  have K32 : Cl l.prog w K mg base 7 "told_form" _ := ⟨⟨_, _, _, ok_tf F73_ TN1 TN3 FW K13 K15 K25 K30 Q_MWI, g73_, k73, b73_⟩⟩
  have M_MTk : Mt l.prog w K mg base 1 CS "_take_form" _ := ⟨⟨_, _, _, CLS, ⟨aMTk, iMTk, kMTk⟩, ok_tk FMTk_ TN1 FS, bMTk_⟩⟩
  have Q_MSI : MqX l.prog w K mg base 8 CS _ := ⟨⟨_, _, _, ⟨mkS, aMSI, iMSI, kCS⟩, ok_si FMSI_ FS ES K11 K14 K31 K32 M_MTk, bMSI_⟩⟩
  have K33 : ClR l.prog w K mg base 2 "check_shapes" _ := ⟨⟨_, ok_chs F88_ TN1 FS IS NS1 ES, g88_, k88⟩⟩
  have K34 : ClR l.prog w K mg base 4 "check_drawn" _ := ⟨⟨_, ok_chd F90_ K33, g90_, k90⟩⟩
  have K35 : ClR l.prog w K mg base 6 "sheet_of" _ := ⟨⟨_, ok_sho F91_ K34, g91_, k91⟩⟩
  have K36 : ClX l.prog w K mg base 4 "border" _ := ⟨⟨_, _, _, ok_border F100_ K33, g100_, k100, b100_⟩⟩
  have K37 : ClX l.prog w K mg base 4 "body" _ := ⟨⟨_, _, _, ok_body F101_ K33, g101_, k101, b101_⟩⟩
  have K38 : ClX l.prog w K mg base 4 "lines" _ := ⟨⟨_, _, _, ok_lines F102_ K33, g102_, k102, b102_⟩⟩
  have K39 : ClX l.prog w K mg base 4 "lone" _ := ⟨⟨_, _, _, ok_lone F103_ K33, g103_, k103, b103_⟩⟩
  have K40 : ClX l.prog w K mg base 4 "parts" _ := ⟨⟨_, _, _, ok_parts F104_ K33, g104_, k104, b104_⟩⟩
  have K41 : ClX l.prog w K mg base 4 "area_shapes" _ := ⟨⟨_, _, _, ok_area_shapes F105_ K33, g105_, k105, b105_⟩⟩
  have K42 : ClX l.prog w K mg base 4 "knots" _ := ⟨⟨_, _, _, ok_knots F107_ K33, g107_, k107, b107_⟩⟩
  have K43 : ClX l.prog w K mg base 8 "without_holes" _ := ⟨⟨_, _, _, ok_without_holes F106_ K35, g106_, k106, b106_⟩⟩
  have K44 : ClX l.prog w K mg base 4 "place" _ := ⟨⟨_, _, _, ok_plc F99_ EP1 K33 K5, g99_, k99, b99_⟩⟩
  have K45 : ClR l.prog w K mg base 11 "filled" _ := ⟨⟨_, ok_fil F95_ FS ES K10 Q_MSI, g95_, k95⟩⟩
  have K46 : ClR l.prog w K mg base 13 "area" _ := ⟨⟨_, ok_are F94_ K45, g94_, k94⟩⟩
  have K47 : ClR l.prog w K mg base 11 "line" _ := ⟨⟨_, ok_lin F96_ TN1 TN3 FS ES K7 K31 Q_MSI, g96_, k96⟩⟩
  have K48 : ClR l.prog w K mg base 11 "dots" _ := ⟨⟨_, ok_dot F97_ FS Q_MSI, g97_, k97⟩⟩
  have K49 : Cl l.prog w K mg base 10 "empty" _ := ⟨⟨_, _, _, ok_emp F98_ FS Q_MSI, g98_, k98, b98_⟩⟩
  have K50 : ClX l.prog w K mg base 6 "ring_flaws" _ := ⟨⟨_, _, _, ok_rfl F108_ TN1 ES K7 K31, g108_, k108, b108_⟩⟩
  have K51 : Cl l.prog w K mg base 9 "is_form" _ := ⟨⟨_, _, _, ok_ifo F109_ TN1 NP1 IS K11, g109_, k109, b109_⟩⟩
  have MF1 : MF l.prog w K mg ⟨cT, cP, cM⟩ := ⟨TN1, ES, EP1, NM, EX1, ⟨_, _, _, _, _, _, _, _, _, _, g114_, k114, l114, c114d, b114_⟩⟩
  have GT : ClG l.prog w K mg base 16 "_law_told_wrong" (spTw CS (lamT pA pB pC pD pR)) := ⟨⟨_, _, _, ok_tw l115 c115d MF1 FS tA meA (lam_u ndl meA) K46 K47 K48 K45 Q_MSI K50, g115_, k115, Binds.all fun us hl => match us, hl with | [_], _ => rfl⟩⟩
  have GO : ClG l.prog w K mg base 16 "_law_rows_wrong" (spRw CS (lamT pA pB pC pD pR)) := ⟨⟨_, _, _, ok_rw l116 c116d MF1 FS tB meB (lam_u ndl meB) K45 Q_MSI K50, g116_, k116, Binds.all fun us hl => match us, hl with | [_], _ => rfl⟩⟩
  have GS : ClG l.prog w K mg base 13 "_law_shapes_wrong" (spSw (lamT pA pB pC pD pR)) := ⟨⟨_, _, _, ok_sw l117 c117d MF1 tC meC (lam_u ndl meC) K44 K36 K37 K38 K39 K40 K41 K43 K42, g117_, k117, Binds.all fun us hl => match us, hl with | [_], _ => rfl⟩⟩
  have GF : ClG l.prog w K mg base 16 "_law_few" (spFw (lamT pA pB pC pD pR)) := ⟨⟨_, _, _, ok_fw l118 c118d MF1 FS tD meD (lam_u ndl meD) K46 K47 K45 Q_MSI, g118_, k118, Binds.all fun us hl => match us, hl with | [], _ => rfl⟩⟩
  have GR : ClG l.prog w K mg base 17 "_law_right" (spRi (lamT pA pB pC pD pR)) := ⟨⟨_, _, _, ok_ri l119 c119d MF1 FS tR meR (lam_u ndl meR) K3 K49 GT GO GS GF K51 K44 K46 K47 Q_MSI K50, g119_, k119, Binds.all fun us hl => match us, hl with | [_], _ => rfl⟩⟩
  exact ok_law l120 c120d TN1 K1 GR
end Q
set_option Elab.async false
set_option linter.all false
set_option maxRecDepth 100000
open PySem PySem.W PyProof.Rows
set_option maxRecDepth 100000 in
set_option maxHeartbeats 0 in
theorem PySem.Challenge.cw_wherebase_k11_errors_of_shapes_holds : PySem.Challenge.rw_wherebase_k11_errors_of_shapes.Holds := by
  w_on; o_law
  refine HandSHeadRun.head_imp (r := OpenLaw.row PySem.Challenge.rw_wherebase_k11_errors_of_shapes) (q := Q.viewA) (H := Q.hkA) (ob := Q.obA) (M := 6142) (loose := Q.looseA) (d := HandSHeadRun.topDef (OpenLaw.row PySem.Challenge.rw_wherebase_k11_errors_of_shapes).prog 120) (kwd := []) Q.ob_eq Q.runA
    (by kernel_rfl) (by kernel_rfl) (by kernel_rfl) (by rfl) (by first | assumption | decide +kernel) (by decide +kernel) ⟨rfl, rfl, rfl, rfl, rfl, by decide +kernel⟩ ?hw ?hc
  case hw => w_witness2
  case hc =>
  unfold Q.hkA
  k_fill
  refine L2.walk_GT (l := PySem.Challenge.rw_wherebase_k11_errors_of_shapes) (n := 63) (k := 18) (x := "script") rfl (by decide) (by kernel_rfl) ⟨rfl, by decide, by decide⟩ (fun w h Y => PySem.W.km_in_of Y) ?F
  case F =>
    intro w mg fa h Y KX G hmg0
    have hmg : mg ("law" : PySem.Str) = some (.ref fa) := by
      have e : (HandSHeadRun.topDef (OpenLaw.row PySem.Challenge.rw_wherebase_k11_errors_of_shapes).prog 120).name = ("law" : PySem.Str) := by kernel_rfl
      rw [← e]
      exact hmg0
    refine' Q.all_mk KX G hmg ?aCS ?pgS ?hdS ?poS ?saS ?nS0 ?nS1 ?nS2 ?kCS ?mkS ?aCW ?pgW ?hdW ?poW ?saW ?nW0 ?nW1 ?nW2 ?nW3 ?nW4 ?nW5 ?nW6 ?nW7 ?nW8 ?nW9 ?nW10 ?nW11 ?nW12 ?nW13 ?nW14 ?nW15 ?nW16 ?nW17 ?nW18 ?nW19 ?nW20 ?kCW ?mkW ?aCG ?pgG ?hdG ?poG ?saG ?nG0 ?kCG ?mkG ?iha ?ihn ?ihtk ?ihm ?ime ?nop0 ?nop1 ?nop2 ?ksnon ?ksbl ?ksint ?ksstr ?kslst ?kstup ?ksdct ?g_MAX ?AT ?TT ?KT ?ST ?AP ?TP ?KP ?SP ?AM ?TM ?KM ?SM ?PT ?PP ?xTT ?xPT ?xPP ?xMP ?xMT ?xMM ?XM ?GM ?HM ?EM ?IM ?FM ?LM ?DM ?YM ?NMx ?gc0 ?a20 ?l20 ?c20d ?k20 ?a22 ?l22 ?c22d ?k22 ?a23 ?l23 ?c23d ?k23 ?a24 ?l24 ?c24d ?k24 ?a25 ?l25 ?c25d ?k25 ?a27 ?l27 ?c27d ?k27 ?a32 ?l32 ?c32d ?k32 ?a33 ?l33 ?c33d ?k33 ?a35 ?l35 ?c35d ?k35 ?a36 ?l36 ?c36d ?k36 ?a42 ?l42 ?c42d ?k42 ?a44 ?l44 ?c44d ?k44 ?a45 ?l45 ?c45d ?k45 ?a47 ?l47 ?c47d ?k47 ?a51 ?l51 ?c51d ?k51 ?a52 ?l52 ?c52d ?k52 ?a54 ?l54 ?c54d ?k54 ?a55 ?l55 ?c55d ?k55 ?a64 ?l64 ?c64d ?k64 ?a65 ?l65 ?c65d ?k65 ?a66 ?l66 ?c66d ?k66 ?a67 ?l67 ?c67d ?k67 ?a68 ?l68 ?c68d ?k68 ?a69 ?l69 ?c69d ?k69 ?a70 ?l70 ?c70d ?k70 ?a71 ?l71 ?c71d ?k71 ?a72 ?l72 ?c72d ?k72 ?a73 ?l73 ?c73d ?k73 ?a87 ?l87 ?c87d ?k87 ?a88 ?l88 ?c88d ?k88 ?a89 ?l89 ?c89d ?k89 ?a90 ?l90 ?c90d ?k90 ?a91 ?l91 ?c91d ?k91 ?a94 ?l94 ?c94d ?k94 ?a95 ?l95 ?c95d ?k95 ?a96 ?l96 ?c96d ?k96 ?a97 ?l97 ?c97d ?k97 ?a98 ?l98 ?c98d ?k98 ?a99 ?l99 ?c99d ?k99 ?a100 ?l100 ?c100d ?k100 ?a101 ?l101 ?c101d ?k101 ?a102 ?l102 ?c102d ?k102 ?a103 ?l103 ?c103d ?k103 ?a104 ?l104 ?c104d ?k104 ?a105 ?l105 ?c105d ?k105 ?a106 ?l106 ?c106d ?k106 ?a107 ?l107 ?c107d ?k107 ?a108 ?l108 ?c108d ?k108 ?a109 ?l109 ?c109d ?k109 ?a111 ?l111 ?c111d ?k111 ?a112 ?l112 ?c112d ?k112 ?a113 ?l113 ?c113d ?k113 ?a114 ?l114 ?c114d ?k114 ?a115 ?l115 ?c115d ?k115 ?a116 ?l116 ?c116d ?k116 ?a117 ?l117 ?c117d ?k117 ?a118 ?l118 ?c118d ?k118 ?a119 ?l119 ?c119d ?k119 ?a120 ?l120 ?c120d ?k120 ?aMWI ?iMWI ?lMWI ?cMWId ?kMWI ?aMTd ?iMTd ?lMTd ?cMTdd ?kMTd ?aMGa ?iMGa ?lMGa ?cMGad ?kMGa ?aMFo ?iMFo ?lMFo ?cMFod ?kMFo ?aMSee ?iMSee ?lMSee ?cMSeed ?kMSee ?aMFS1 ?iMFS1 ?lMFS1 ?cMFS1d ?kMFS1 ?aMRP ?iMRP ?lMRP ?cMRPd ?kMRP ?aMSe ?iMSe ?lMSe ?cMSed ?kMSe ?aMRA ?iMRA ?lMRA ?cMRAd ?kMRA ?aMGI ?iMGI ?lMGI ?cMGId ?kMGI ?aMSI ?iMSI ?lMSI ?cMSId ?kMSI ?aMTk ?iMTk ?lMTk ?cMTkd ?kMTk ?z_isinstance ?z_int ?z_bool ?z_str ?z_tuple ?z_dict ?z_list ?z_len ?z_all ?z_sorted ?z_range ?z_max ?z_min ?z_repr ?z_sum ?z_abs ?z_enumerate ?z_zip ?z_any ?z_set ?ccA ?cpA ?chA ?cnA ?ctA ?ccB ?cpB ?chB ?cnB ?ctB ?ccC ?cpC ?chC ?cnC ?ctC ?ccD ?cpD ?chD ?cnD ?ctD ?ccR ?cpR ?chR ?cnR ?ctR ?nd
    (case aCS => k_is)
    (case pgS => k_is)
    (case hdS => k_is)
    (case poS => k_is)
    (case saS => k_is)
    (case nS0 => k_is)
    (case nS1 => k_is)
    (case nS2 => k_is)
    (case kCS => k_is)
    (case mkS => k_is)
    (case aCW => k_is)
    (case pgW => k_is)
    (case hdW => k_is)
    (case poW => k_is)
    (case saW => k_is)
    (case nW0 => k_is)
    (case nW1 => k_is)
    (case nW2 => k_is)
    (case nW3 => k_is)
    (case nW4 => k_is)
    (case nW5 => k_is)
    (case nW6 => k_is)
    (case nW7 => k_is)
    (case nW8 => k_is)
    (case nW9 => k_is)
    (case nW10 => k_is)
    (case nW11 => k_is)
    (case nW12 => k_is)
    (case nW13 => k_is)
    (case nW14 => k_is)
    (case nW15 => k_is)
    (case nW16 => k_is)
    (case nW17 => k_is)
    (case nW18 => k_is)
    (case nW19 => k_is)
    (case nW20 => k_is)
    (case kCW => k_is)
    (case mkW => k_is)
    (case aCG => k_is)
    (case pgG => k_is)
    (case hdG => k_is)
    (case poG => k_is)
    (case saG => k_is)
    (case nG0 => k_is)
    (case kCG => k_is)
    (case mkG => k_is)
    (case iha => k_is)
    (case ihn => k_is)
    (case ihtk => k_is)
    (case ihm => k_is)
    (case ime => kit_is)
    (case nop0 => kit_is)
    (case nop1 => kit_is)
    (case nop2 => kit_is)
    (case ksnon => kit_is)
    (case ksbl => kit_is)
    (case ksint => kit_is)
    (case ksstr => kit_is)
    (case kslst => kit_is)
    (case kstup => kit_is)
    (case ksdct => kit_is)
    (case g_MAX => k_is)
    (case AT => k_is)
    (case TT => k_is)
    (case KT => k_is)
    (case ST => k_is)
    (case AP => k_is)
    (case TP => k_is)
    (case KP => k_is)
    (case SP => k_is)
    (case AM => k_is)
    (case TM => k_is)
    (case KM => k_is)
    (case SM => k_is)
    (case PT => k_exc)
    (case PP => k_exc)
    (case xTT => k_is)
    (case xPT => k_is)
    (case xPP => k_is)
    (case xMP => k_is)
    (case xMT => k_is)
    (case xMM => k_is)
    (case XM => k_is)
    (case GM => k_is)
    (case HM => k_is)
    (case EM => k_is)
    (case IM => k_is)
    (case FM => k_is)
    (case LM => k_is)
    (case DM => k_is)
    (case YM => k_is)
    (case NMx => k_is)
    (case gc0 => k_is)
    (case a20 => k_is)
    (case l20 => k_is)
    (case c20d => k_is)
    (case k20 => k_is)
    (case a22 => k_is)
    (case l22 => k_is)
    (case c22d => k_is)
    (case k22 => k_is)
    (case a23 => k_is)
    (case l23 => k_is)
    (case c23d => k_is)
    (case k23 => k_is)
    (case a24 => k_is)
    (case l24 => k_is)
    (case c24d => k_is)
    (case k24 => k_is)
    (case a25 => k_is)
    (case l25 => k_is)
    (case c25d => k_is)
    (case k25 => k_is)
    (case a27 => k_is)
    (case l27 => k_is)
    (case c27d => k_is)
    (case k27 => k_is)
    (case a32 => k_is)
    (case l32 => k_is)
    (case c32d => k_is)
    (case k32 => k_is)
    (case a33 => k_is)
    (case l33 => k_is)
    (case c33d => k_is)
    (case k33 => k_is)
    (case a35 => k_is)
    (case l35 => k_is)
    (case c35d => k_is)
    (case k35 => k_is)
    (case a36 => k_is)
    (case l36 => k_is)
    (case c36d => k_is)
    (case k36 => k_is)
    (case a42 => k_is)
    (case l42 => k_is)
    (case c42d => k_is)
    (case k42 => k_is)
    (case a44 => k_is)
    (case l44 => k_is)
    (case c44d => k_is)
    (case k44 => k_is)
    (case a45 => k_is)
    (case l45 => k_is)
    (case c45d => k_is)
    (case k45 => k_is)
    (case a47 => k_is)
    (case l47 => k_is)
    (case c47d => k_is)
    (case k47 => k_is)
    (case a51 => k_is)
    (case l51 => k_is)
    (case c51d => k_is)
    (case k51 => k_is)
    (case a52 => k_is)
    (case l52 => k_is)
    (case c52d => k_is)
    (case k52 => k_is)
    (case a54 => k_is)
    (case l54 => k_is)
    (case c54d => k_is)
    (case k54 => k_is)
    (case a55 => k_is)
    (case l55 => k_is)
    (case c55d => k_is)
    (case k55 => k_is)
    (case a64 => k_is)
    (case l64 => k_is)
    (case c64d => k_is)
    (case k64 => k_is)
    (case a65 => k_is)
    (case l65 => k_is)
    (case c65d => k_is)
    (case k65 => k_is)
    (case a66 => k_is)
    (case l66 => k_is)
    (case c66d => k_is)
    (case k66 => k_is)
    (case a67 => k_is)
    (case l67 => k_is)
    (case c67d => k_is)
    (case k67 => k_is)
    (case a68 => k_is)
    (case l68 => k_is)
    (case c68d => k_is)
    (case k68 => k_is)
    (case a69 => k_is)
    (case l69 => k_is)
    (case c69d => k_is)
    (case k69 => k_is)
    (case a70 => k_is)
    (case l70 => k_is)
    (case c70d => k_is)
    (case k70 => k_is)
    (case a71 => k_is)
    (case l71 => k_is)
    (case c71d => k_is)
    (case k71 => k_is)
    (case a72 => k_is)
    (case l72 => k_is)
    (case c72d => k_is)
    (case k72 => k_is)
    (case a73 => k_is)
    (case l73 => k_is)
    (case c73d => k_is)
    (case k73 => k_is)
    (case a87 => k_is)
    (case l87 => k_is)
    (case c87d => k_is)
    (case k87 => k_is)
    (case a88 => k_is)
    (case l88 => k_is)
    (case c88d => k_is)
    (case k88 => k_is)
    (case a89 => k_is)
    (case l89 => k_is)
    (case c89d => k_is)
    (case k89 => k_is)
    (case a90 => k_is)
    (case l90 => k_is)
    (case c90d => k_is)
    (case k90 => k_is)
    (case a91 => k_is)
    (case l91 => k_is)
    (case c91d => k_is)
    (case k91 => k_is)
    (case a94 => k_is)
    (case l94 => k_is)
    (case c94d => k_is)
    (case k94 => k_is)
    (case a95 => k_is)
    (case l95 => k_is)
    (case c95d => k_is)
    (case k95 => k_is)
    (case a96 => k_is)
    (case l96 => k_is)
    (case c96d => k_is)
    (case k96 => k_is)
    (case a97 => k_is)
    (case l97 => k_is)
    (case c97d => k_is)
    (case k97 => k_is)
    (case a98 => k_is)
    (case l98 => k_is)
    (case c98d => k_is)
    (case k98 => k_is)
    (case a99 => k_is)
    (case l99 => k_is)
    (case c99d => k_is)
    (case k99 => k_is)
    (case a100 => k_is)
    (case l100 => k_is)
    (case c100d => k_is)
    (case k100 => k_is)
    (case a101 => k_is)
    (case l101 => k_is)
    (case c101d => k_is)
    (case k101 => k_is)
    (case a102 => k_is)
    (case l102 => k_is)
    (case c102d => k_is)
    (case k102 => k_is)
    (case a103 => k_is)
    (case l103 => k_is)
    (case c103d => k_is)
    (case k103 => k_is)
    (case a104 => k_is)
    (case l104 => k_is)
    (case c104d => k_is)
    (case k104 => k_is)
    (case a105 => k_is)
    (case l105 => k_is)
    (case c105d => k_is)
    (case k105 => k_is)
    (case a106 => k_is)
    (case l106 => k_is)
    (case c106d => k_is)
    (case k106 => k_is)
    (case a107 => k_is)
    (case l107 => k_is)
    (case c107d => k_is)
    (case k107 => k_is)
    (case a108 => k_is)
    (case l108 => k_is)
    (case c108d => k_is)
    (case k108 => k_is)
    (case a109 => k_is)
    (case l109 => k_is)
    (case c109d => k_is)
    (case k109 => k_is)
    (case a111 => k_is)
    (case l111 => k_is)
    (case c111d => k_is)
    (case k111 => k_is)
    (case a112 => k_is)
    (case l112 => k_is)
    (case c112d => k_is)
    (case k112 => k_is)
    (case a113 => k_is)
    (case l113 => k_is)
    (case c113d => k_is)
    (case k113 => k_is)
    (case a114 => k_is)
    (case l114 => k_is)
    (case c114d => k_is)
    (case k114 => k_is)
    (case a115 => k_is)
    (case l115 => k_is)
    (case c115d => k_is)
    (case k115 => k_is)
    (case a116 => k_is)
    (case l116 => k_is)
    (case c116d => k_is)
    (case k116 => k_is)
    (case a117 => k_is)
    (case l117 => k_is)
    (case c117d => k_is)
    (case k117 => k_is)
    (case a118 => k_is)
    (case l118 => k_is)
    (case c118d => k_is)
    (case k118 => k_is)
    (case a119 => k_is)
    (case l119 => k_is)
    (case c119d => k_is)
    (case k119 => k_is)
    (case a120 => k_is)
    (case l120 => k_is)
    (case c120d => k_is)
    (case k120 => k_is)
    (case aMWI => k_is)
    (case iMWI => k_is)
    (case lMWI => k_is)
    (case cMWId => k_is)
    (case kMWI => k_is)
    (case aMTd => k_is)
    (case iMTd => k_is)
    (case lMTd => k_is)
    (case cMTdd => k_is)
    (case kMTd => k_is)
    (case aMGa => k_is)
    (case iMGa => k_is)
    (case lMGa => k_is)
    (case cMGad => k_is)
    (case kMGa => k_is)
    (case aMFo => k_is)
    (case iMFo => k_is)
    (case lMFo => k_is)
    (case cMFod => k_is)
    (case kMFo => k_is)
    (case aMSee => k_is)
    (case iMSee => k_is)
    (case lMSee => k_is)
    (case cMSeed => k_is)
    (case kMSee => k_is)
    (case aMFS1 => k_is)
    (case iMFS1 => k_is)
    (case lMFS1 => k_is)
    (case cMFS1d => k_is)
    (case kMFS1 => k_is)
    (case aMRP => k_is)
    (case iMRP => k_is)
    (case lMRP => k_is)
    (case cMRPd => k_is)
    (case kMRP => k_is)
    (case aMSe => k_is)
    (case iMSe => k_is)
    (case lMSe => k_is)
    (case cMSed => k_is)
    (case kMSe => k_is)
    (case aMRA => k_is)
    (case iMRA => k_is)
    (case lMRA => k_is)
    (case cMRAd => k_is)
    (case kMRA => k_is)
    (case aMGI => k_is)
    (case iMGI => k_is)
    (case lMGI => k_is)
    (case cMGId => k_is)
    (case kMGI => k_is)
    (case aMSI => k_is)
    (case iMSI => k_is)
    (case lMSI => k_is)
    (case cMSId => k_is)
    (case kMSI => k_is)
    (case aMTk => k_is)
    (case iMTk => k_is)
    (case lMTk => k_is)
    (case cMTkd => k_is)
    (case kMTk => k_is)
    (case z_isinstance => k_is)
    (case z_int => k_is)
    (case z_bool => k_is)
    (case z_str => k_is)
    (case z_tuple => k_is)
    (case z_dict => k_is)
    (case z_list => k_is)
    (case z_len => k_is)
    (case z_all => k_is)
    (case z_sorted => k_is)
    (case z_range => k_is)
    (case z_max => k_is)
    (case z_min => k_is)
    (case z_repr => k_is)
    (case z_sum => k_is)
    (case z_abs => k_is)
    (case z_enumerate => k_is)
    (case z_zip => k_is)
    (case z_any => k_is)
    (case z_set => k_is)
    (case ccA => k_is)
    (case cpA => rfl)
    (case chA => kernel_rfl)
    (case cnA => kernel_rfl)
    (case ctA => exact PySem.W.km_tabs_of Y _ (by k_mem))
    (case ccB => k_is)
    (case cpB => rfl)
    (case chB => kernel_rfl)
    (case cnB => kernel_rfl)
    (case ctB => exact PySem.W.km_tabs_of Y _ (by k_mem))
    (case ccC => k_is)
    (case cpC => rfl)
    (case chC => kernel_rfl)
    (case cnC => kernel_rfl)
    (case ctC => exact PySem.W.km_tabs_of Y _ (by k_mem))
    (case ccD => k_is)
    (case cpD => rfl)
    (case chD => kernel_rfl)
    (case cnD => kernel_rfl)
    (case ctD => exact PySem.W.km_tabs_of Y _ (by k_mem))
    (case ccR => k_is)
    (case cpR => rfl)
    (case chR => kernel_rfl)
    (case cnR => kernel_rfl)
    (case ctR => exact PySem.W.km_tabs_of Y _ (by k_mem))
    (case nd => decide)
