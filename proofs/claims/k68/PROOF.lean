import PyProof.Rows.All
import Wide.All
import OpenK.AllK
import Wide.FinOn
import HandS.ForMost
import HandS.Zip
import HandS.TupAny
import KE.KRevSl
import KE.GoesNew
import KE.KDictZip
import HandS.Walk
import HandS.Conv
import HandS.Flow
import HandS.IsInst
import HandS.Wide
import HandS.Dict
import PyProof.ReprRoads
import HandS.ForExc
import HandS.ExcInit
import HandS.ExcIs
import HandS.ExcField
import KE.KExcInit
import HandS.Defaults
import HandS.ExcValue
import HandS.SetFor
import KE.SortData
import HandS.Iter
import HandS.Deep
import HandS.CallSlots
import HandS.Style
import HandS.Text
import PyProof.P3In
import HandS.RaiseMore
import HandS.Comp
import HandS.TryOnly
import HandS.WordsExc
import HandS.More
import HandS.Property
import HandS.DictComp
import HandS.Star
import KE.KOpsOwn
import HandS.Codes
import PyProof.Rows.SortStr
import PyProof.Rows.StrMeet
import HandS.Set
import KE.KTryMore
import KE.KDictPairs
import KE.KDictKeyed
import PyProof.InstNe
import PyProof.ListNew
import KE.DataFind
import HandS.ClsMeth
import HandS.FStr
import PyProof.StrLaws
import PyProof.Rows.RegStrFacts
import PyProof.ExcBaseAll.ValueError
import HandS.TupMul
import HandS.SetKeys
import HandS.Gcd
import HandS.WideBits
import KE.KMathGC
import KE.GoesZip
import KE.GoesMore
import PyProof.StrLawsFirst
import PyProof.SumWalkG
import HandS.FStrTup
import HandS.Ends
import PySem.Challenge.RW_countedsteps_k68_what_crossings_are
set_option Elab.async false
set_option linter.all false
set_option maxRecDepth 100000
set_option maxHeartbeats 2000000
/-! Rules that the hand layer lacks: the reversed slice, enumerate of a tuple, tuple(zip(..)) -/
namespace CS
open PySem PySem.Spec PyProof.Rows L2
/-! ### x[::-1] -/
end CS
namespace CS
open PySem PySem.Spec PyProof.Rows L2
/-! ### enumerate(x) of anything whose iterator is known -/
end CS
namespace CS
open PySem PySem.Spec PyProof.Rows L2
end CS
namespace CS
open PySem PySem.Spec PyProof.Rows L2
end CS
namespace CS
open PySem PySem.Spec PyProof.Rows L2
end CS
namespace K68
open PySem PySem.Spec PyProof.Rows L2 CS
def top (i : Nat) : Stmt := PySem.Challenge.pw_countedsteps_k68_what_crossings_are.main.body.getD i (.Pass ⟨0, 0, 0, 0⟩)
abbrev sBox : Stmt := top 9
abbrev sTake : Stmt := top 10
abbrev sCells : Stmt := top 11
abbrev sSame : Stmt := top 15
abbrev sLaw : Stmt := top 23
abbrev clsBody (st : Stmt) : List Stmt := match st with | .ClassDef _ _ _ b _ _ _ _ _ _ _ => b | _ => []
/-! ### heaps and lists -/
theorem same_upd {H : Hp} {p : Addr} {o : HO} (h : H p = none) : Same H (upd H p o) := fun b x e => by
  rw [upd_ne (ne_of_none e h)]
  exact e
theorem sqT_same {K : PySem.W.Frag} {H H' : Hp} {a : Addr} {xs : List V} (e : Same H H') (h : SqT K H a xs) : SqT K H' a xs := by
  rcases h with (h | ⟨o, h⟩) | h
  · exact .inl (.inl (e _ _ h))
  · exact .inl (.inr ⟨o, e _ _ h⟩)
  · exact .inr h
/-- a tuple or a list of texts -/
def Jr (K : PySem.W.Frag) (H : Hp) (a : Addr) (ss : List Str) : Prop := SqT K H a (ss.map V.str) ∨ SqL K H a (ss.map V.str)
theorem Jr.keep {K : PySem.W.Frag} {H H' : Hp} {a : Addr} {ss : List Str} (h : Jr K H a ss) (s : Same H H') : Jr K H' a ss := by
  rcases h with h | h
  · exact .inl (sqT_same s h)
  · exact .inr (s.seq h)
end K68
namespace K68
open PySem PySem.Spec PyProof.Rows L2 CS
/-- all but b is as it was -/
def Keep (b : Addr) (H H' : Hp) : Prop := ∀ c o, c ≠ b → H c = some o → H' c = some o
theorem Keep.refl (b : Addr) (H : Hp) : Keep b H H := fun _ _ _ e => e
theorem Keep.trans {b : Addr} {H H1 H2 : Hp} (x : Keep b H H1) (y : Keep b H1 H2) : Keep b H H2 := fun c o n e => y c o n (x c o n e)
theorem Keep.upd {b : Addr} (H : Hp) (o : HO) : Keep b H (L2.upd H b o) := fun c u n e => by rw [upd_ne n]; exact e
theorem Keep.sqL {K : PySem.W.Frag} {b a : Addr} {H H' : Hp} {xs : List V} (x : Keep b H H') (n : a ≠ b) (h : SqL K H a xs) : SqL K H' a xs := by
  rcases h with (h | ⟨o, h⟩) | h
  · exact .inl (.inl (x _ _ n h))
  · exact .inl (.inr ⟨o, x _ _ n h⟩)
  · exact .inr h
theorem b01 (c : Bool) : 0 ≤ (if c = true then (1 : Int) else 0) ∧ (if c = true then (1 : Int) else 0) ≤ 1 := by cases c <;> decide
theorem abs0 (i : Int) : 0 ≤ (if i < 0 then -i else i) := by split <;> omega
theorem mul01 (i : Int) (c : Bool) : CMul i (if c = true then (1 : Int) else 0) := by
  have q := b01 c
  exact .inr ⟨by omega, by omega⟩
theorem dv64 (i : Int) : CDivN i 64 := ⟨by decide, by decide⟩
theorem dvM (i : Int) : CDivN i 1000003 := ⟨by decide, by decide⟩
section
variable {P : Program} {w : World} {K : PySem.W.Frag} {mg : Str → Option Value} {base : Heap}
/-! ### the box of draws -/
/-- a box at b: what is left of the number, the seed, how often it was asked -/
def BoxAt (H : Hp) (b : Addr) (n : Nat) : Prop := ∃ A B C : Int, H b = some (.lst [.int A, .int B, .int C]) ∧ 0 ≤ A ∧ 0 ≤ B ∧ B < 2 ^ 62 ∧ 0 ≤ C ∧ C ≤ n
def spBox (K : PySem.W.Frag) : Sp := fun vs H Q _ => ∃ (a : Addr) (ns : List Int) (k : Nat), vs = [.ref a, .int (k : Nat)] ∧ SqL K H a (ns.map V.int) ∧ k < ns.length ∧ ns.length ≤ 1000 ∧ ∀ (H' : Hp) (p : Addr), Same H H' → H p = none → BoxAt H' p 0 → Q (.ref p) H'
theorem scBox : FnScope ["_law_script", "_law_k", "_law_cell"] ["_law_script", "_law_k"] (defScope sBox) := ⟨rfl, rfl, rfl, by decide +kernel, rfl, by decide +kernel, by decide +kernel⟩
theorem ok_box {f : Addr} {fd : FuncData} {k : Nat} (F : Fun K "_law_box" "_law_box" sBox f fd) (ml : mg "len" = none) (ma : mg "abs" = none) (mi : mg "int" = none) : FnOk P w K mg base CX0 (k + 1) f fd ["_law_script", "_law_k"] (spBox K) := by
  refine F.ok scBox (fun vs H Q E h => ?_) (fun cdv A outer s H vs Q E hr h => ?_)
  · obtain ⟨a, ns, k, rfl, _⟩ := h
    rfl
  · obtain ⟨a, ns, k, rfl, hS, hk, h1, q⟩ := h
    refine ⟨_, pss_cons (ps_set (i := 2) scBox.nd rfl (.inl rfl) (pe_ifExp (pt_cmpR op_lt (pv 1) (pe_callB call_len_seq (by rfl) ml PySem.boot_len (pa_cons (pv 0) pa_nil)) (nomark _)) (pe_ix ix_list (pv 0) (pv 1) (fun _ _ => rfl)) pe_int))
      (pss_one (ps_ret (pe_lst (pa_cons (pe_op op_mul (pe_callB call_abs (by rfl) ma (by decide +kernel) (pa_cons (pv 2) pa_nil)) (pe_callTy call_int1 (by rfl) mi (by decide +kernel) (pa_cons (pe_cmpR op_ge (pe_callB call_abs (by rfl) ma (by decide +kernel) (pa_cons (pv 2) pa_nil)) (pe_op op_pow pe_int pe_int) (nomark _)) pa_nil)))
        (pa_cons (pe_op op_add (pe_op op_add (pe_op op_modN (pe_callTy call_int1 (by rfl) mi (by decide +kernel) (pa_cons (pv 2) pa_nil)) pe_int) (pe_op op_mul pe_int (pv 1))) pe_int) (pa_cons pe_int pa_nil)))))), ?_⟩
    have hx : (ns.map V.int)[k]? = some (.int ns[k]) := by rw [List.getElem?_map, List.getElem?_eq_getElem hk]; rfl
    have hd : decide ((k : Int) < ((ns.map V.int).length : Nat)) = true := decide_eq_true (by rw [List.length_map]; omega)
    refine ⟨.int (k : Nat), rfl, .ref a, rfl, a, _, rfl, .inl hS, _, _, rfl, rfl, _, rfl, ?_⟩
    rw [hd]
    refine ⟨.ref a, rfl, .int (k : Nat), rfl, a, _, _, _, rfl, rfl, hS, atI_nat hx, ?_⟩
    have e1 := Int.fmod_nonneg_of_pos ns[k] (b := 2305843009213693951) (by decide)
    have e2 := Int.fmod_lt_of_pos ns[k] (b := 2305843009213693951) (by decide)
    refine ⟨.int ns[k], rfl, _, rfl, .int ns[k], rfl, _, rfl, 10, 18, rfl, rfl, ⟨by decide, by decide, by decide⟩, _, _, rfl, rfl, .inr ⟨_, rfl, _, _, rfl, rfl, mul01 _ _, ?_⟩⟩
    refine ⟨.int ns[k], rfl, .inl ⟨_, rfl, _, _, rfl, rfl, (by show (2305843009213693951 : Int) ≠ 0; decide), _, rfl, _, _, rfl, rfl, .inl (by decide), _, _, rfl, rfl, _, _, rfl, rfl, ?_⟩⟩
    refine ⟨by show 3 ≤ sizeLine; decide, fun p np => q _ p (same_upd np) np ?_⟩
    refine ⟨_, _, 0, upd_same, Int.mul_nonneg (abs0 _) (b01 _).1, ?_, ?_, Int.le_refl 0, Int.le_refl 0⟩
    · have : (0 : Int) ≤ k := Int.natCast_nonneg k
      omega
    · have : (k : Int) < 1000 := by omega
      omega
/-! ### a draw -/
def spTake : Sp := fun vs H Q _ => ∃ (b : Addr) (n : Nat) (m : Int), vs = [.ref b, .int m] ∧ BoxAt H b n ∧ n ≤ 1000000 ∧ 0 < m ∧ m < 2 ^ 200 ∧ ∀ (H' : Hp) (r : Int), Keep b H H' → BoxAt H' b (n + 1) → 0 ≤ r → r < m → Q (.int r) H'
theorem scTake : FnScope ["_law_box_here", "_law_below", "_law_digit_so", "_law_once", "_law_odd", "_law_twice"] ["_law_box_here", "_law_below"] (defScope sTake) := ⟨rfl, rfl, rfl, by decide +kernel, rfl, by decide +kernel, by decide +kernel⟩
theorem ok_take {f : Addr} {fd : FuncData} {k : Nat} (F : Fun K "_law_take" "_law_take" sTake f fd) (mi : mg "int" = none) : FnOk P w K mg base CX0 (k + 1) f fd ["_law_box_here", "_law_below"] spTake := by
  refine F.ok scTake (fun vs H Q E h => ?_) (fun cdv A outer s H vs Q E hr h => ?_)
  · obtain ⟨b, n, m, rfl, _⟩ := h
    rfl
  · obtain ⟨b, n, m, rfl, ⟨A, B, C, hb, hA, hB, hB2, hC, hC2⟩, hn, hm, hm2, q⟩ := h
    refine ⟨_, pss_cons (ps_if (pt_cmpR op_gt (pe_ix ix_list (pv 0) pe_int (fun _ _ => rfl)) pe_int (nomark _))
        (pss_cons (ps_set (i := 2) scTake.nd rfl (.inl rfl) (pe_op op_modN (pe_callTy call_int1 (by rfl) mi (by decide +kernel) (pa_cons (pe_ix ix_list (pv 0) pe_int (fun _ _ => rfl)) pa_nil)) (pv 1)))
          (pss_cons (ps_asg (pe_op op_fdivW (pe_ix ix_list (pv 0) pe_int (fun _ _ => rfl)) (pv 1)) (pg_sub (pv 0) pe_int set_list)) (pss_one (ps_ret (pv 2))))) pss_nil)
      (pss_cons (ps_asg (pe_op op_add (pe_ix ix_list (pv 0) pe_int (fun _ _ => rfl)) pe_int) (pg_sub (pv 0) pe_int set_list))
      (pss_cons (ps_set (i := 3) scTake.nd rfl (.inl rfl) (pe_op op_modN (pe_callTy call_int1 (by rfl) mi (by decide +kernel) (pa_cons (pe_op op_mul (pe_op op_add (pe_ix ix_list (pv 0) pe_int (fun _ _ => rfl)) (pe_op op_mul pe_int (pe_ix ix_list (pv 0) pe_int (fun _ _ => rfl)))) (pe_op op_add pe_int (pe_ix ix_list (pv 0) pe_int (fun _ _ => rfl)))) pa_nil)) pe_int))
      (pss_cons (ps_set (i := 4) scTake.nd rfl (.inl rfl) (pe_op op_add (pe_op op_modN (pe_callTy call_int1 (by rfl) mi (by decide +kernel) (pa_cons (pv 3) pa_nil)) pe_int) pe_int))
      (pss_cons (ps_set (i := 5) scTake.nd rfl (.inl rfl) (pe_op op_modN (pe_callTy call_int1 (by rfl) mi (by decide +kernel) (pa_cons (pe_op op_mul (pe_op op_add (pe_op op_add (pv 3) (pe_ix ix_list (pv 0) pe_int (fun _ _ => rfl))) (pe_op op_fdivN (pe_ix ix_list (pv 0) pe_int (fun _ _ => rfl)) pe_int)) (pv 4)) pa_nil)) pe_int))
      (pss_one (ps_ret (pe_op op_modN (pe_callTy call_int1 (by rfl) mi (by decide +kernel) (pa_cons (pe_op op_fdivN (pe_op op_modN (pe_callTy call_int1 (by rfl) mi (by decide +kernel) (pa_cons (pe_op op_add (pe_op op_mul (pv 5) pe_int) (pv 3)) pa_nil)) pe_int) pe_int) pa_nil)) (pv 1)))))))), ?_⟩
    refine ⟨.ref b, rfl, b, _, 0, .int A, rfl, rfl, SqL.of hb, atI_nat (j := 0) rfl, _, _, rfl, rfl, _, rfl, ?_⟩
    refine ite2 (fun c => ?_) (fun c => ?_)
    · have hg : 0 < A := of_decide_eq_true c
      have r0 := Int.fmod_nonneg_of_pos A hm
      have r1 := Int.fmod_lt_of_pos A hm
      have d0 : 0 ≤ A / m := Int.ediv_nonneg hA (Int.le_of_lt hm)
      refine ⟨.ref b, rfl, b, _, 0, .int A, rfl, rfl, SqL.of hb, atI_nat (j := 0) rfl, .inl ⟨A, rfl, .int m, rfl, A, m, rfl, rfl, by omega, ?_⟩⟩
      refine ⟨.ref b, rfl, b, _, 0, .int A, rfl, rfl, SqL.of hb, atI_nat (j := 0) rfl, .int m, rfl, A, m, rfl, rfl, wide_div hm (b := 200) (by omega) (by decide) (by decide), ?_⟩
      refine ⟨.ref b, rfl, b, _, 0, 0, rfl, rfl, hb, rfl, ?_⟩
      refine ⟨_, rfl, ?_⟩
      exact q _ _ (Keep.upd H _) ⟨_, B, C, upd_same, d0, hB, hB2, hC, by omega⟩ r0 r1
    · refine ⟨.ref b, rfl, b, _, 2, .int C, rfl, rfl, SqL.of hb, atI_nat (j := 2) rfl, _, _, rfl, rfl, ?_⟩
      refine ⟨.ref b, rfl, b, _, 2, 2, rfl, rfl, hb, rfl, ?_⟩
      have hb2 : SqL K (upd H b (.lst [.int A, .int B, .int (C + 1)])) b [.int A, .int B, .int (C + 1)] := SqL.of upd_same
      have i1 : atI [V.int A, V.int B, V.int (C + 1)] 1 = some (V.int B) := atI_nat (j := 1) rfl
      have i2 : atI [V.int A, V.int B, V.int (C + 1)] 2 = some (V.int (C + 1)) := atI_nat (j := 2) rfl
      refine ⟨.ref b, rfl, b, _, 1, .int B, rfl, rfl, hb2, i1, .ref b, rfl, b, _, 2, .int (C + 1), rfl, rfl, hb2, i2, _, _, rfl, rfl, .inl (by decide), _, _, rfl, rfl, .ref b, rfl, b, _, 2, .int (C + 1), rfl, rfl, hb2, i2, _, _, rfl, rfl,
        _, _, rfl, rfl, .inr (by omega), .inl ⟨_, rfl, _, _, rfl, rfl, (by show (2147483647 : Int) ≠ 0; decide), ?_⟩⟩
      have o0 := Int.fmod_nonneg_of_pos ((B + 48271 * (C + 1)) * (39373 + (C + 1))) (b := 2147483647) (by decide)
      have o1 := Int.fmod_lt_of_pos ((B + 48271 * (C + 1)) * (39373 + (C + 1))) (b := 2147483647) (by decide)
      dsimp only
      revert o0 o1
      generalize Int.fmod ((B + 48271 * (C + 1)) * (39373 + (C + 1))) 2147483647 = o
      intro o0 o1
      refine ⟨.int o, rfl, .inl ⟨_, rfl, _, _, rfl, rfl, (by show (40009 : Int) ≠ 0; decide), _, _, rfl, rfl, ?_⟩⟩
      have v0 := Int.fmod_nonneg_of_pos o (b := 40009) (by decide)
      have v1 := Int.fmod_lt_of_pos o (b := 40009) (by decide)
      dsimp only
      revert v0 v1
      generalize Int.fmod o 40009 = v
      intro v0 v1
      refine ⟨.int o, rfl, .ref b, rfl, b, _, 2, .int (C + 1), rfl, rfl, hb2, i2, _, _, rfl, rfl, .ref b, rfl, b, _, 1, .int B, rfl, rfl, hb2, i1, _, _, rfl, rfl, dvM _, _, _, rfl, rfl, .int (v + 7), rfl, _, _, rfl, rfl, .inr (by omega),
        .inl ⟨_, rfl, _, _, rfl, rfl, (by show (2147483629 : Int) ≠ 0; decide), ?_⟩⟩
      refine ⟨.int _, rfl, _, _, rfl, rfl, .inr (by decide), .int o, rfl, _, _, rfl, rfl, .inl ⟨_, rfl, _, _, rfl, rfl, (by show (2147483587 : Int) ≠ 0; decide), _, _, rfl, rfl, dv64 _, .inl ⟨_, rfl, .int m, rfl, _, _, rfl, rfl, (by omega), ?_⟩⟩⟩
      exact q _ _ (Keep.upd H _) ⟨A, B, C + 1, upd_same, hA, hB, hB2, by omega, by omega⟩ (Int.fmod_nonneg_of_pos _ hm) (Int.fmod_lt_of_pos _ hm)
end
end K68
namespace K68
open PySem PySem.Spec PyProof.Rows L2 CS
theorem BoxAt.same {H H' : Hp} {b : Addr} {n : Nat} (h : BoxAt H b n) (s : Same H H') : BoxAt H' b n := by
  obtain ⟨A, B, C, e, r⟩ := h
  exact ⟨A, B, C, s _ _ e, r⟩
end K68
namespace K68
open PySem PySem.Spec PyProof.Rows L2 CS RZ
/-! ### same -/
def okD : Nat → PyData → Prop
  | 0, _ => False
  | _ + 1, .int _ => True
  | _ + 1, .str _ => True
  | _ + 1, .bool _ => True
  | _ + 1, .none => True
  | n + 1, .list ds => ds.length ≤ 1000 ∧ ∀ d ∈ ds, okD n d
  | n + 1, .tuple ds => ds.length ≤ 1000 ∧ ∀ d ∈ ds, okD n d
  | _ + 1, _ => False
mutual
theorem dp_same {K : PySem.W.Frag} {H H' : Hp} (s : Same H H') : ∀ {v : V} {d : PyData}, Dp K H v d → Dp K H' v d
  | _, _, .non => .non
  | _, _, .bl b => .bl b
  | _, _, .int i => .int i
  | _, _, .str x => .str x
  | _, _, .lst q r => .lst (s.seq q) (dp_sameAll s r)
  | _, _, .tup q r => .tup (sqT_same s q) (dp_sameAll s r)
theorem dp_sameAll {K : PySem.W.Frag} {H H' : Hp} (s : Same H H') : ∀ {vs : List V} {ds : List PyData}, DpAll K H vs ds → DpAll K H' vs ds
  | _, _, .nil => .nil
  | _, _, .cons q r => .cons (dp_same s q) (dp_sameAll s r)
end
theorem dpAll_len {K : PySem.W.Frag} {H : Hp} : ∀ {ds : List PyData} {vs : List V}, DpAll K H vs ds → vs.length = ds.length
  | _, _, .nil => rfl
  | _, _, .cons _ r => congrArg (· + 1) (dpAll_len r)
theorem dpAll_at {K : PySem.W.Frag} {H : Hp} : ∀ {ds : List PyData} {vs : List V}, DpAll K H vs ds → ∀ {i : Nat} {v : V}, vs[i]? = some v → ∃ d, ds[i]? = some d ∧ Dp K H v d
  | _, _, .nil, i, _, h => by cases h
  | _, _, .cons q r, 0, _, h => by cases h; exact ⟨_, rfl, q⟩
  | _, _, .cons q r, i + 1, v, h => dpAll_at r (i := i) h
theorem tyL {K : PySem.W.Frag} {H : Hp} {a : Addr} {xs : List V} (h : SqL K H a xs) : TyX K H (.ref a) (.type "list") := by
  rcases h with (h | ⟨o, h⟩) | ⟨o, its, n, h, c, _⟩
  · exact .base (.lst h)
  · exact .base (.frz h)
  · exact .kList h c
theorem tyT {K : PySem.W.Frag} {H : Hp} {a : Addr} {xs : List V} (h : SqT K H a xs) : TyX K H (.ref a) (.type "tuple") := by
  rcases h with (h | ⟨o, h⟩) | ⟨o, its, n, h, c, _⟩
  · exact .base (.tup h)
  · exact .fTuple h
  · exact .kTuple h c
theorem walk_zipT {K : PySem.W.Frag} {a b : Addr} {xs ys : List V} {n : Nat} (hn : n = min xs.length ys.length) : Walk (ItzT K a b) n (fun H => SqT K H a xs ∧ SqT K H b ys) (YPair (fun i => xs[i]?) (fun i => ys[i]?)) := by
  subst hn
  refine ⟨fun i H hi q => ?_, fun H q => ⟨xs, ys, q.1, q.2, by omega⟩, fun i H v H' hi q y => ?_⟩
  · have l1 : i < xs.length := by omega
    have l2 : i < ys.length := by omega
    exact ⟨xs, ys, xs[i], ys[i], q.1, q.2, by simp [l1], by simp [l2]⟩
  · obtain ⟨T, x, z, e1, e2, e3, e4, e5⟩ := y
    exact ⟨T, x, z, e1, e2, e3, e4 xs q.1, e5 ys q.2⟩
section
variable {P : Program} {w : World} {K : PySem.W.Frag} {mg : Str → Option Value} {base : Heap}
def spSame (K : PySem.W.Frag) (n : Nat) : Sp := fun vs H Q _ => ∃ (x y : V) (d : PyData), vs = [x, y] ∧ Dp K H x d ∧ Dp K H y d ∧ okD n d ∧ ∀ H' : Hp, Same H H' → Q (.bl true) H'
/-- what the top says of the built-ins that same asks -/
structure SmT (mg : Str → Option Value) : Prop where
  is : mg "isinstance" = none
  li : mg "list" = none
  tu : mg "tuple" = none
  le : mg "len" = none
  al : mg "all" = none
  zi : mg "zip" = none
  bo : mg "bool" = none
  st : mg "str" = none
  int : mg "int" = none
abbrev nSame : List Str := ["_law_got", "_law_due", "_law_mine", "_law_its"]
theorem scSame : FnScope nSame ["_law_got", "_law_due"] (defScope sSame) := ⟨rfl, rfl, rfl, by decide +kernel, rfl, by decide +kernel, by decide +kernel⟩
theorem same_none {f : Addr} {fd : FuncData} : FnOk P w K mg base CX0 0 f fd ["_law_got", "_law_due"] (spSame K 0) := by
  have no : ∀ vs H Q E, ¬ spSame K 0 vs H Q E := fun vs H Q E h => by
    obtain ⟨_, _, d, _, _, _, h, _⟩ := h
    cases d <;> exact h
  exact ⟨fun vs H Q E h => absurd h (no vs H Q E), fun A outer s H args us vs Q E _ _ _ _ h => absurd h (no vs H Q E)⟩
theorem isi_one {t c : String} {b : Bool} (h : kitB t c = some b) : PySem.W.kitOne K (.type t) (.type c) = some b := kit_ty h
theorem any_ff {t a b : String} (h1 : kitB t a = some false) (h2 : kitB t b = some false) : PySem.W.kitAny K (.type t) [.type a, .type b] = some false :=
  kitAny_cons (kit_ty h1) (fun _ => kitAny_cons (kit_ty h2) (fun _ => kitAny_nil) fun z => nomatch z) fun z => nomatch z
theorem any_t {t a b : String} (h1 : kitB t a = some true) : PySem.W.kitAny K (.type t) [.type a, .type b] = some true := kitAny_cons (kit_ty h1) (fun z => nomatch z) fun _ => rfl
theorem any_ft {t a b : String} (h1 : kitB t a = some false) (h2 : kitB t b = some true) : PySem.W.kitAny K (.type t) [.type a, .type b] = some true :=
  kitAny_cons (kit_ty h1) (fun _ => kitAny_cons (kit_ty h2) (fun z => nomatch z) fun _ => rfl) fun _ => rfl
theorem all_yes : ∀ n : Nat, (List.replicate n true).all id = true
  | 0 => rfl
  | n + 1 => by
    rw [List.replicate_succ, List.all_cons, all_yes n]
    rfl
theorem ok_same {n : Nat} {f : Addr} {fd : FuncData} (F : Fun K "_law_same" "_law_same" sSame f fd) (G : FnOk P w K mg base CX0 n f fd ["_law_got", "_law_due"] (spSame K n)) (bG : Binds K fd ["_law_got", "_law_due"] []) (mG : mg "_law_same" = some (.ref f)) (T : SmT mg) :
    FnOk P w K mg base CX0 (n + 1) f fd ["_law_got", "_law_due"] (spSame K (n + 1)) := by
  refine F.ok scSame (fun vs H Q E h => ?_) (fun cdv A outer s H vs Q E hr h => ?_)
  · obtain ⟨x, y, d, rfl, _⟩ := h
    rfl
  · obtain ⟨x, y, d, rfl, hx, hy, hd, q⟩ := h
    refine ⟨_, pss_cons (ps_if (pt_val (pe_callB call_isiT (by rfl) T.is (by decide +kernel) (pa_cons (pv 1) (pa_cons (pe_tup (pa_cons (pe_bltn (v := .ty "list") (by rfl) T.li (by decide +kernel) rfl) (pa_cons (pe_bltn (v := .ty "tuple") (by rfl) T.tu (by decide +kernel) rfl) pa_nil))) pa_nil))))
        (pss_cons (ps_if (PW.pt (pw_or (pt_cmpR op_ne (pe_callB call_isi (by rfl) T.is (by decide +kernel) (pa_cons (pv 0) (pa_cons (pe_bltn (v := .ty "list") (by rfl) T.li (by decide +kernel) rfl) pa_nil))) (pe_callB call_isi (by rfl) T.is (by decide +kernel) (pa_cons (pv 1) (pa_cons (pe_bltn (v := .ty "list") (by rfl) T.li (by decide +kernel) rfl) pa_nil))) (nomark _))
            (pw_or1 (pt_cmpR op_ne (pe_callB call_isi (by rfl) T.is (by decide +kernel) (pa_cons (pv 0) (pa_cons (pe_bltn (v := .ty "tuple") (by rfl) T.tu (by decide +kernel) rfl) pa_nil))) (pe_callB call_isi (by rfl) T.is (by decide +kernel) (pa_cons (pv 1) (pa_cons (pe_bltn (v := .ty "tuple") (by rfl) T.tu (by decide +kernel) rfl) pa_nil))) (nomark _)))))
          (pss_one (ps_ret (pe_bl))) pss_nil)
        (pss_one (ps_ret (pe_and (pe_cmpR op_eq (pe_callB call_len_seq (by rfl) T.le PySem.boot_len (pa_cons (pv 0) pa_nil)) (pe_callB call_len_seq (by rfl) T.le PySem.boot_len (pa_cons (pv 1) pa_nil)) (nomark _))
          (pe_one (pe_callB (cr_all rfl) (by rfl) T.al (by decide +kernel) (pa_cons (pe_lc (own := [("_law_mine", 2), ("_law_its", 3)]) (g := gTup K 2 (gCons (gName 2) (gCons (gName 3) gNil))) (by rfl) scSame.nd (pi_zipA (by rfl) T.zi (pa_cons (pv 0) (pa_cons (pv 1) pa_nil)))
            (blkOk_by (own := [("_law_mine", 2), ("_law_its", 3)]) (N := nSame) (sc := defScope sSame) (by decide +kernel))
            (fun _ _ _ _ _ => pg_tup rfl (pgs_cons (pg_name (i := 2) scSame.nd rfl (Or.inl rfl) (.inr rfl)) (pgs_cons (pg_name (i := 3) scSame.nd rfl (Or.inl rfl) (.inr rfl)) pgs_nil))) (fun _ _ _ _ _ => pts_nil)
            (fun _ _ _ _ _ => pe_call G hr (by rfl) mG F.kp bG .nil pass0 (pa_cons (pv 2) (pa_cons (pv 3) pa_nil)))) pa_nil))))))) pss_nil)
      (pss_cons (ps_if (PW.pt (pw_or (pt_cmpR op_isN (pv 1) pe_non (nomark _)) (pw_or1 (pt_val (pe_callB call_isiT (by rfl) T.is (by decide +kernel) (pa_cons (pv 1) (pa_cons (pe_tup (pa_cons (pe_bltn (v := .ty "bool") (by rfl) T.bo (by decide +kernel) rfl) (pa_cons (pe_bltn (v := .ty "str") (by rfl) T.st (by decide +kernel) rfl) pa_nil))) pa_nil)))))))
        (pss_one (ps_ret (pe_and (pe_cmpR op_eq (pv 0) (pv 1) (nomark _)) (pe_and (pe_cmpR op_eq (pe_callB call_isi (by rfl) T.is (by decide +kernel) (pa_cons (pv 0) (pa_cons (pe_bltn (v := .ty "bool") (by rfl) T.bo (by decide +kernel) rfl) pa_nil))) (pe_callB call_isi (by rfl) T.is (by decide +kernel) (pa_cons (pv 1) (pa_cons (pe_bltn (v := .ty "bool") (by rfl) T.bo (by decide +kernel) rfl) pa_nil))) (nomark _))
          (pe_one (pe_cmpR op_eq (pe_cmpR op_isN (pv 0) pe_non (nomark _)) (pe_cmpR op_isN (pv 1) pe_non (nomark _)) (nomark _))))))) pss_nil)
      (pss_one (ps_ret (pe_and (pe_callB call_isi (by rfl) T.is (by decide +kernel) (pa_cons (pv 0) (pa_cons (pe_bltn (v := .ty "int") (by rfl) T.int (by decide +kernel) rfl) pa_nil)))
        (pe_and (pe_not (pe_callB call_isi (by rfl) T.is (by decide +kernel) (pa_cons (pv 0) (pa_cons (pe_bltn (v := .ty "bool") (by rfl) T.bo (by decide +kernel) rfl) pa_nil)))) (pe_one (pe_cmpR op_eq (pv 0) (pv 1) (nomark _)))))))), ?_⟩
    have two : 2 ≤ sizeLine := by decide
    cases d with
    | int i =>
      cases hx
      cases hy
      refine ⟨.int i, rfl, two, fun p np => ⟨_, p, _, _, _, false, rfl, upd_same, .cons (.ty _) (.cons (.ty _) .nil), .base (.int i), any_ff (by decide +kernel) (by decide +kernel), _, rfl, ?_⟩⟩
      refine ite2 (fun z => absurd z Bool.false_ne_true) (fun _ => ?_)
      refine ⟨.int i, rfl, rfl, _, rfl, ?_⟩
      refine ite2 (fun z => absurd (of_decide_eq_true z) (fun e => by cases e)) (fun _ => ?_)
      refine ⟨.int i, rfl, two, fun p2 np2 => ⟨_, p2, _, _, _, false, rfl, upd_same, .cons (.ty _) (.cons (.ty _) .nil), .base (.int i), any_ff (by decide +kernel) (by decide +kernel), _, rfl, ?_⟩⟩
      refine ite2 (fun z => absurd z Bool.false_ne_true) (fun _ => ?_)
      refine ⟨.int i, rfl, _, _, _, _, true, rfl, .ty _, .base (.int i), isi_one (by decide +kernel), _, rfl, ?_⟩
      refine ite2 (fun _ => ?_) (fun z => absurd rfl z)
      refine ⟨.int i, rfl, _, _, _, _, false, rfl, .ty _, .base (.int i), isi_one (by decide +kernel), _, rfl, _, rfl, ?_⟩
      refine ite2 (fun _ => ?_) (fun z => absurd rfl z)
      refine ⟨.int i, rfl, .int i, rfl, rfl, ?_⟩
      have e : decide (V.int i = V.int i) = true := decide_eq_true rfl
      rw [e]
      exact q _ ((same_upd np).trans (same_upd np2))
    | str z =>
      cases hx
      cases hy
      refine ⟨.str z, rfl, two, fun p np => ⟨_, p, _, _, _, false, rfl, upd_same, .cons (.ty _) (.cons (.ty _) .nil), .base (.str z), any_ff (by decide +kernel) (by decide +kernel), _, rfl, ?_⟩⟩
      refine ite2 (fun z => absurd z Bool.false_ne_true) (fun _ => ?_)
      refine ⟨.str z, rfl, rfl, _, rfl, ?_⟩
      refine ite2 (fun z => absurd (of_decide_eq_true z) (fun e => by cases e)) (fun _ => ?_)
      refine ⟨.str z, rfl, two, fun p2 np2 => ⟨_, p2, _, _, _, true, rfl, upd_same, .cons (.ty _) (.cons (.ty _) .nil), .base (.str z), any_ft (by decide +kernel) (by decide +kernel), _, rfl, ?_⟩⟩
      refine ite2 (fun _ => ?_) (fun z => absurd rfl z)
      refine ⟨.str z, rfl, .str z, rfl, rfl, _, rfl, ?_⟩
      refine ite2 (fun _ => ?_) (fun e => absurd (decide_eq_true rfl) e)
      refine ⟨.str z, rfl, _, _, _, _, false, rfl, .ty _, .base (.str z), isi_one (by decide +kernel), .str z, rfl, _, _, _, _, false, rfl, .ty _, .base (.str z), isi_one (by decide +kernel), rfl, _, rfl, ?_⟩
      refine ite2 (fun _ => ?_) (fun e => absurd rfl e)
      refine ⟨.str z, rfl, rfl, .str z, rfl, rfl, rfl, ?_⟩
      have e : decide (V.bl (decide (V.str z = V.non)) = V.bl (decide (V.str z = V.non))) = true := decide_eq_true rfl
      rw [e]
      exact q _ ((same_upd np).trans (same_upd np2))
    | bool z =>
      cases hx
      cases hy
      refine ⟨.bl z, rfl, two, fun p np => ⟨_, p, _, _, _, false, rfl, upd_same, .cons (.ty _) (.cons (.ty _) .nil), .base (.bl z), any_ff (by decide +kernel) (by decide +kernel), _, rfl, ?_⟩⟩
      refine ite2 (fun z => absurd z Bool.false_ne_true) (fun _ => ?_)
      refine ⟨.bl z, rfl, rfl, _, rfl, ?_⟩
      refine ite2 (fun z => absurd (of_decide_eq_true z) (fun e => by cases e)) (fun _ => ?_)
      refine ⟨.bl z, rfl, two, fun p2 np2 => ⟨_, p2, _, _, _, true, rfl, upd_same, .cons (.ty _) (.cons (.ty _) .nil), .base (.bl z), any_t (by decide +kernel), _, rfl, ?_⟩⟩
      refine ite2 (fun _ => ?_) (fun z => absurd rfl z)
      refine ⟨.bl z, rfl, .bl z, rfl, rfl, _, rfl, ?_⟩
      refine ite2 (fun _ => ?_) (fun e => absurd (decide_eq_true rfl) e)
      refine ⟨.bl z, rfl, _, _, _, _, true, rfl, .ty _, .base (.bl z), isi_one (by decide +kernel), .bl z, rfl, _, _, _, _, true, rfl, .ty _, .base (.bl z), isi_one (by decide +kernel), rfl, _, rfl, ?_⟩
      refine ite2 (fun _ => ?_) (fun e => absurd rfl e)
      refine ⟨.bl z, rfl, rfl, .bl z, rfl, rfl, rfl, ?_⟩
      have e : decide (V.bl (decide (V.bl z = V.non)) = V.bl (decide (V.bl z = V.non))) = true := decide_eq_true rfl
      rw [e]
      exact q _ ((same_upd np).trans (same_upd np2))
    | none =>
      cases hx
      cases hy
      refine ⟨.non, rfl, two, fun p np => ⟨_, p, _, _, _, false, rfl, upd_same, .cons (.ty _) (.cons (.ty _) .nil), .base .non, any_ff (by decide +kernel) (by decide +kernel), _, rfl, ?_⟩⟩
      refine ite2 (fun z => absurd z Bool.false_ne_true) (fun _ => ?_)
      refine ⟨.non, rfl, rfl, _, rfl, ?_⟩
      refine ite2 (fun _ => ?_) (fun z => absurd (decide_eq_true rfl) z)
      refine ⟨.non, rfl, .non, rfl, rfl, _, rfl, ?_⟩
      refine ite2 (fun _ => ?_) (fun e => absurd (decide_eq_true rfl) e)
      refine ⟨.non, rfl, _, _, _, _, false, rfl, .ty _, .base .non, isi_one (by decide +kernel), .non, rfl, _, _, _, _, false, rfl, .ty _, .base .non, isi_one (by decide +kernel), rfl, _, rfl, ?_⟩
      refine ite2 (fun _ => ?_) (fun e => absurd rfl e)
      refine ⟨.non, rfl, rfl, .non, rfl, rfl, rfl, ?_⟩
      have e : decide (V.bl (decide (V.non = V.non)) = V.bl (decide (V.non = V.non))) = true := decide_eq_true rfl
      rw [e]
      exact q _ (same_upd np)
    | list ds =>
      obtain ⟨hlen, hds⟩ := hd
      cases hx with
      | lst hxs hxa =>
      cases hy with
      | lst hys hya =>
      rename_i a xs b ys
      have lx := dpAll_len hxa
      have ly := dpAll_len hya
      refine ⟨.ref b, rfl, two, fun p np => ⟨_, p, _, _, _, true, rfl, upd_same, .cons (.ty _) (.cons (.ty _) .nil), tyL ((same_upd np).seq hys), any_t (by decide +kernel), _, rfl, ?_⟩⟩
      refine ite2 (fun _ => ?_) (fun z => absurd rfl z)
      have s1 : Same H (upd H p (.tup [.ty "list", .ty "tuple"])) := same_upd np
      have hxs1 := (s1).seq hxs
      have hys1 := (s1).seq hys
      refine ⟨.ref a, rfl, _, _, _, _, true, rfl, .ty _, tyL hxs1, isi_one (by decide +kernel), .ref b, rfl, _, _, _, _, true, rfl, .ty _, tyL hys1, isi_one (by decide +kernel), rfl, _, rfl, ?_⟩
      refine ite2 (fun c => by rw [decide_eq_true rfl] at c; cases c) (fun _ => ?_)
      refine ⟨.ref a, rfl, _, _, _, _, false, rfl, .ty _, tyL hxs1, isi_one (by decide +kernel), .ref b, rfl, _, _, _, _, false, rfl, .ty _, tyL hys1, isi_one (by decide +kernel), rfl, _, rfl, ?_⟩
      refine ite2 (fun c => by rw [decide_eq_true rfl] at c; cases c) (fun _ => ?_)
      refine ⟨.ref a, rfl, a, _, rfl, .inl hxs1, .ref b, rfl, b, _, rfl, .inl hys1, rfl, _, rfl, ?_⟩
      refine ite2 (fun _ => ?_) (fun z => absurd (decide_eq_true (congrArg V.int (by rw [lx, ly]))) z)
      refine ⟨.ref a, rfl, .ref b, rfl, a, b, xs, ys, rfl, .inl ⟨hxs1, hys1, fun D nD => lc_it (walk_zip (K := K) (a := a) (b := b) (xs := xs) (ys := ys) rfl)
        (fun i H' => Same (upd H p (.tup [.ty "list", .ty "tuple"])) H' ∧ H' D = some (.lst ((List.replicate i true).map V.bl))) ⟨same_upd nD, upd_same⟩ (fun i H' _ z => ⟨(z.1).seq hxs1, (z.1).seq hys1⟩) ?_ ?_⟩⟩
      · rintro i v H2 H3 hi ⟨s2, eD⟩ ⟨T1, x1, y1, rfl, nT, rfl, hx1, hy1⟩
        obtain ⟨d1, e1, r1⟩ := dpAll_at hxa hx1
        obtain ⟨d2, e2, r2⟩ := dpAll_at hya hy1
        have ed : d1 = d2 := by
          rw [e1] at e2
          exact Option.some.inj e2
        subst ed
        have s3 : Same (upd H p (.tup [.ty "list", .ty "tuple"])) (upd H2 T1 (.tup [x1, y1])) := s2.trans (same_upd nT)
        have hi' : i < 1000 := by omega
        refine ⟨T1, [x1, y1], rfl, SqT.of upd_same, rfl, x1, [y1], rfl, y1, [], rfl, rfl, ?_⟩
        refine ⟨rfl, ?_⟩
        unfold tYes
        refine ite2 (fun _ => ?_) (fun z => absurd rfl z)
        refine ⟨x1, rfl, y1, rfl, x1, y1, d1, rfl, dp_same (s1.trans s3) r1, dp_same (s1.trans s3) r2, hds d1 (List.mem_of_getElem? e1), fun H4 s4 => ?_⟩
        have eD4 : H4 D = some (.lst ((List.replicate i true).map V.bl)) := s4 _ _ (by rw [upd_ne (ne_of_none eD nT)]; exact eD)
        refine ⟨_, eD4, ?_, fun c o e => ?_, ?_⟩
        · rw [List.length_map, List.length_replicate]
          exact small1000 (Nat.le_of_lt hi')
        · rw [upd_ne (ne_of_none e nD)]
          exact s4 _ _ (s3 _ _ e)
        · rw [upd_same, List.replicate_succ', List.map_append]
          rfl
      · rintro H2 ⟨s2, eD⟩
        refine ⟨D, _, rfl, SqL.of eD, ?_⟩
        rw [all_yes]
        exact q _ (s1.trans s2)
    | tuple ds =>
      obtain ⟨hlen, hds⟩ := hd
      cases hx with
      | tup hxs hxa =>
      cases hy with
      | tup hys hya =>
      rename_i a xs b ys
      have lx := dpAll_len hxa
      have ly := dpAll_len hya
      refine ⟨.ref b, rfl, two, fun p np => ⟨_, p, _, _, _, true, rfl, upd_same, .cons (.ty _) (.cons (.ty _) .nil), tyT (sqT_same (same_upd np) hys), any_ft (by decide +kernel) (by decide +kernel), _, rfl, ?_⟩⟩
      refine ite2 (fun _ => ?_) (fun z => absurd rfl z)
      have s1 : Same H (upd H p (.tup [.ty "list", .ty "tuple"])) := same_upd np
      have hxs1 := sqT_same (s1) hxs
      have hys1 := sqT_same (s1) hys
      refine ⟨.ref a, rfl, _, _, _, _, false, rfl, .ty _, tyT hxs1, isi_one (by decide +kernel), .ref b, rfl, _, _, _, _, false, rfl, .ty _, tyT hys1, isi_one (by decide +kernel), rfl, _, rfl, ?_⟩
      refine ite2 (fun c => by rw [decide_eq_true rfl] at c; cases c) (fun _ => ?_)
      refine ⟨.ref a, rfl, _, _, _, _, true, rfl, .ty _, tyT hxs1, isi_one (by decide +kernel), .ref b, rfl, _, _, _, _, true, rfl, .ty _, tyT hys1, isi_one (by decide +kernel), rfl, _, rfl, ?_⟩
      refine ite2 (fun c => by rw [decide_eq_true rfl] at c; cases c) (fun _ => ?_)
      refine ⟨.ref a, rfl, a, _, rfl, .inr hxs1, .ref b, rfl, b, _, rfl, .inr hys1, rfl, _, rfl, ?_⟩
      refine ite2 (fun _ => ?_) (fun z => absurd (decide_eq_true (congrArg V.int (by rw [lx, ly]))) z)
      refine ⟨.ref a, rfl, .ref b, rfl, a, b, xs, ys, rfl, .inr ⟨hxs1, hys1, fun D nD => lc_it (walk_zipT (K := K) (a := a) (b := b) (xs := xs) (ys := ys) rfl)
        (fun i H' => Same (upd H p (.tup [.ty "list", .ty "tuple"])) H' ∧ H' D = some (.lst ((List.replicate i true).map V.bl))) ⟨same_upd nD, upd_same⟩ (fun i H' _ z => ⟨sqT_same (z.1) hxs1, sqT_same (z.1) hys1⟩) ?_ ?_⟩⟩
      · rintro i v H2 H3 hi ⟨s2, eD⟩ ⟨T1, x1, y1, rfl, nT, rfl, hx1, hy1⟩
        obtain ⟨d1, e1, r1⟩ := dpAll_at hxa hx1
        obtain ⟨d2, e2, r2⟩ := dpAll_at hya hy1
        have ed : d1 = d2 := by
          rw [e1] at e2
          exact Option.some.inj e2
        subst ed
        have s3 : Same (upd H p (.tup [.ty "list", .ty "tuple"])) (upd H2 T1 (.tup [x1, y1])) := s2.trans (same_upd nT)
        have hi' : i < 1000 := by omega
        refine ⟨T1, [x1, y1], rfl, SqT.of upd_same, rfl, x1, [y1], rfl, y1, [], rfl, rfl, ?_⟩
        refine ⟨rfl, ?_⟩
        unfold tYes
        refine ite2 (fun _ => ?_) (fun z => absurd rfl z)
        refine ⟨x1, rfl, y1, rfl, x1, y1, d1, rfl, dp_same (s1.trans s3) r1, dp_same (s1.trans s3) r2, hds d1 (List.mem_of_getElem? e1), fun H4 s4 => ?_⟩
        have eD4 : H4 D = some (.lst ((List.replicate i true).map V.bl)) := s4 _ _ (by rw [upd_ne (ne_of_none eD nT)]; exact eD)
        refine ⟨_, eD4, ?_, fun c o e => ?_, ?_⟩
        · rw [List.length_map, List.length_replicate]
          exact small1000 (Nat.le_of_lt hi')
        · rw [upd_ne (ne_of_none e nD)]
          exact s4 _ _ (s3 _ _ e)
        · rw [upd_same, List.replicate_succ', List.map_append]
          rfl
      · rintro H2 ⟨s2, eD⟩
        refine ⟨D, _, rfl, SqL.of eD, ?_⟩
        rw [all_yes]
        exact q _ (s1.trans s2)
    | _ => exact absurd hd id
end
end K68
namespace K68
open PySem PySem.Spec PyProof.Rows L2 CS
/-- what stood at first stands, and all of H2 but l -/
def KeepTo (H H2 : Hp) (l : Addr) (H' : Hp) : Prop := Same H H' ∧ Keep l H2 H'
theorem cut3 (ns : List Int) : cutV (ns.map V.int) (some 3) (some 63) = ((ns.drop (min 3 ns.length)).take (min 63 ns.length - min 3 ns.length)).map V.int := by
  unfold cutV
  rw [show HT.sIx (ns.map V.int).length 0 (some 3) = min 3 (ns.map V.int).length from HT.sIx_nat _ 0 3, show HT.sIx (ns.map V.int).length (ns.map V.int).length (some 63) = min 63 (ns.map V.int).length from HT.sIx_nat _ _ 63, List.length_map, List.map_take, List.map_drop]
theorem cut0 (ns : List Int) : cutV (ns.map V.int) none (some 3) = (ns.take (min 3 ns.length)).map V.int := by
  unfold cutV
  rw [show HT.sIx (ns.map V.int).length 0 none = 0 from HT.sIx_none _ _, show HT.sIx (ns.map V.int).length (ns.map V.int).length (some 3) = min 3 (ns.map V.int).length from HT.sIx_nat _ _ 3, List.length_map, List.map_take]
  rfl
section
variable {P : Program} {w : World} {K : PySem.W.Frag} {mg : Str → Option Value} {base : Heap}
def spCells (K : PySem.W.Frag) : Sp := fun vs H Q _ => ∃ (a : Addr) (ns : List Int), vs = [.ref a, .int 3] ∧ SqL K H a (ns.map V.int) ∧ ns.length ≤ 63 ∧
  ∀ (H' : Hp) (p : Addr) (ms : List Int), Same H H' → H p = none → H' p = some (.lst (ms.map V.int)) → 1 ≤ ms.length → ms.length ≤ 3 → Q (.ref p) H'
theorem scCells : FnScope ["_law_script", "_law_most_so", "_law_cells_here", "_law_k", "_law_cell", "_law_at_so"] ["_law_script", "_law_most_so"] (defScope sCells) := ⟨rfl, rfl, rfl, by decide +kernel, rfl, by decide +kernel, by decide +kernel⟩
theorem ok_cells {f : Addr} {fd : FuncData} {k : Nat} (F : Fun K "_law_cells" "_law_cells" sCells f fd) (mL : mg "list" = none) (mE : mg "enumerate" = none) (mi : mg "int" = none) : FnOk P w K mg base CX0 (k + 1) f fd ["_law_script", "_law_most_so"] (spCells K) := by
  refine F.ok scCells (fun vs H Q E h => ?_) (fun cdv A outer s H vs Q E hr h => ?_)
  · obtain ⟨a, ns, rfl, _⟩ := h
    rfl
  · obtain ⟨a, ns, rfl, hS, hn, q⟩ := h
    refine ⟨_, pss_cons (ps_set (i := 2) scCells.nd rfl (.inl rfl) (pe_orT (pe_callTy call_list_of (by rfl) mL (by decide +kernel) (pa_cons (pe_slice sl_list (pv 0) po_none (po_some (pv 1))) pa_nil)) (pe_one (pe_lst (pa_cons pe_int pa_nil)))))
      (pss_cons (ps_for PassesOwn.never rfl (pi_enum (by rfl) mE (pa_cons (pe_slice sl_list (pv 0) (po_some (pv 1)) (po_some pe_int)) pa_nil))
          (pg_tup rfl (pgs_cons (pg_name (i := 3) scCells.nd rfl (.inl rfl)) (pgs_cons (pg_name (i := 4) scCells.nd rfl (.inl rfl)) pgs_nil)))
        (pss_cons (ps_set (i := 5) scCells.nd rfl (.inl rfl) (pe_op op_modN (pe_callTy call_int1 (by rfl) mi (by decide +kernel) (pa_cons (pv 3) pa_nil)) (pv 1)))
          (pss_one (ps_asg (pe_op op_add (pe_ix ix_list (pv 2) (pv 5) (fun _ _ => rfl)) (pe_op op_mul (pv 4) (pe_op op_add (pv 3) pe_int))) (pg_sub (pv 2) (pv 5) set_list)))))
      (pss_one (ps_ret (pv 2)))), ?_⟩
    refine ⟨.ref a, rfl, .int 3, rfl, 3, rfl, a, ns.map V.int, rfl, hS, fun c nc => ?_⟩
    rw [cut0]
    refine ⟨c, _, rfl, .inl (SqL.of upd_same), fun l nl0 => ?_⟩
    have s0 : Same H (upd (upd H c (.lst ((ns.take (min 3 ns.length)).map V.int))) l (.lst ((ns.take (min 3 ns.length)).map V.int))) := (same_upd nc).trans (same_upd nl0)
    have nlH : H l = none := (same_upd nc).free nl0
    have hl1 : (ns.take (min 3 ns.length)).length = min 3 ns.length := by
      rw [List.length_take]
      omega
    refine ⟨_, .inl ⟨_, SqL.of upd_same, rfl⟩, ?_⟩
    refine ite2 (fun c1 => ?_) (fun c1 => ?_)
    · have hpos : 0 < ns.length := by
        cases ns with
        | nil => cases c1
        | cons x r => exact Nat.succ_pos _
      have e1 : (upd (upd H c (.lst ((ns.take (min 3 ns.length)).map V.int))) l (.lst ((ns.take (min 3 ns.length)).map V.int))) l = some (.lst ((ns.take (min 3 ns.length)).map V.int)) := upd_same
      generalize upd (upd H c (.lst ((ns.take (min 3 ns.length)).map V.int))) l (.lst ((ns.take (min 3 ns.length)).map V.int)) = H1 at s0 e1
      generalize ns.take (min 3 ns.length) = ms at e1 hl1
      have s1 := s0
      have nl := nlH
      have m1 : 1 ≤ ms.length := by omega
      have m3 : ms.length ≤ 3 := by omega
      have h3 : 3 < ns.length → ms.length = 3 := fun _ => by omega
      refine ⟨.ref a, rfl, .int 3, rfl, 3, rfl, 63, rfl, a, ns.map V.int, rfl, s1.seq hS, fun c2 nc2 => ?_⟩
      rw [cut3]
      have s2 : Same H (upd H1 c2 (.lst (((ns.drop (min 3 ns.length)).take (min 63 ns.length - min 3 ns.length)).map V.int))) := s1.trans (same_upd nc2)
      have ncl : c2 ≠ l := fun z => by
        rw [z, e1] at nc2
        cases nc2
      have hC : SqL K (upd H1 c2 (.lst (((ns.drop (min 3 ns.length)).take (min 63 ns.length - min 3 ns.length)).map V.int))) c2 (((ns.drop (min 3 ns.length)).take (min 63 ns.length - min 3 ns.length)).map V.int) := SqL.of upd_same
      have eL : (upd H1 c2 (.lst (((ns.drop (min 3 ns.length)).take (min 63 ns.length - min 3 ns.length)).map V.int))) l = some (.lst (ms.map V.int)) := by
        rw [upd_ne ncl.symm]
        exact e1
      have hlenr : ((ns.drop (min 3 ns.length)).take (min 63 ns.length - min 3 ns.length)).length = min 63 ns.length - min 3 ns.length := by
        rw [List.length_take, List.length_drop]
        omega
      generalize ((ns.drop (min 3 ns.length)).take (min 63 ns.length - min 3 ns.length)) = rest at s2 hC eL hlenr
      generalize upd H1 c2 (.lst (rest.map V.int)) = H2 at s2 hC eL
      refine ⟨c2, rest.map V.int, rfl, hC, for_it (walk_enum (K := K) (a := c2) (xs := rest.map V.int)) (fun i σ H' => ∃ (y3 y4 y5 : Option V) (zs : List Int), σ = [some (.ref a), some (.int 3), some (.ref l), y3, y4, y5] ∧ KeepTo H H2 l H' ∧ H' l = some (.lst (zs.map V.int)) ∧ zs.length = ms.length)
        ⟨none, none, none, ms, rfl, ⟨s2, fun _ _ _ e => e⟩, eL, rfl⟩ (fun i σ H' _ z => by
          obtain ⟨_, _, _, _, _, kk, _, _⟩ := z
          exact Keep.sqL (b := l) kk.2 ncl hC) ?_ ?_⟩
      · rintro i v σ H3 H4 hi ⟨y3, y4, y5, zs, rfl, kk, e3, hzl⟩ ⟨T, x, y, rfl, nT, rfl, hx, hy⟩
        cases hx
        replace hy : (rest.map V.int)[i]? = some y := hy
        rw [List.getElem?_map] at hy
        rw [List.length_map, hlenr] at hi
        cases e : rest[i]? with
        | none =>
          rw [e] at hy
          cases hy
        | some u =>
          rw [e] at hy
          cases hy
          have hz3 : zs.length = 3 := by rw [hzl]; exact h3 (by omega)
          have f0 := Int.fmod_nonneg_of_pos (i : Int) (b := 3) (by decide)
          have f1 := Int.fmod_lt_of_pos (i : Int) (b := 3) (by decide)
          have nlT : l ≠ T := ne_of_none e3 nT
          have e3T : (upd H3 T (.tup [.int (i : Nat), .int u])) l = some (.lst (zs.map V.int)) := by
            rw [upd_ne nlT]
            exact e3
          refine ⟨T, [.int (i : Nat), .int u], rfl, SqT.of upd_same, rfl, .int (i : Nat), [.int u], rfl, .int u, [], rfl, rfl, ?_⟩
          refine ⟨.int (i : Nat), rfl, .inl ⟨_, rfl, .int 3, rfl, _, _, rfl, rfl, (by show (3 : Int) ≠ 0; decide), ?_⟩⟩
          have hj : (Int.fmod (i : Int) 3).toNat < zs.length := by omega
          have hat : atI (zs.map V.int) (Int.fmod (i : Int) 3) = some (.int zs[(Int.fmod (i : Int) 3).toNat]) := by
            have za := atI_nat (j := (Int.fmod (i : Int) 3).toNat) (xs := zs.map V.int) (v := .int zs[(Int.fmod (i : Int) 3).toNat]) (by rw [List.getElem?_map, List.getElem?_eq_getElem hj]; rfl)
            rw [show (((Int.fmod (i : Int) 3).toNat : Nat) : Int) = Int.fmod (i : Int) 3 by omega] at za
            exact za
          refine ⟨.ref l, rfl, .int _, rfl, l, _, _, _, rfl, rfl, SqL.of e3T, hat, .int u, rfl, .int (i : Nat), rfl, _, _, rfl, rfl, _, _, rfl, rfl, .inr (by omega), _, _, rfl, rfl, ?_⟩
          refine ⟨.ref l, rfl, .int _, rfl, l, _, _, (Int.fmod (i : Int) 3).toNat, rfl, rfl, e3T, ?_, ?_⟩
          · unfold ixN
            rw [List.length_map, if_pos f0, if_pos (by omega)]
          · refine ⟨_, _, _, zs.set (Int.fmod (i : Int) 3).toNat (zs[(Int.fmod (i : Int) 3).toNat] + u * ((i : Int) + 2)), rfl, ⟨fun c o ec => ?_, fun c o nc ec => ?_⟩, ?_, ?_⟩
            · have q3 := kk.1 _ _ ec
              have ncl3 : c ≠ l := ne_of_none ec nl
              rw [upd_ne ncl3, upd_ne (ne_of_none q3 nT)]
              exact q3
            · have q3 := kk.2 _ _ nc ec
              rw [upd_ne nc, upd_ne (ne_of_none q3 nT)]
              exact q3
            · rw [upd_same, List.map_set]
            · rw [List.length_set]
              exact hzl
      · rintro σ H3 ⟨y3, y4, y5, zs, rfl, kk, e3, hzl⟩
        exact ⟨.ref l, rfl, q H3 l zs kk.1 nl e3 (by omega) (by omega)⟩
    · have hnil : ns.length = 0 := by
        cases ns with
        | nil => rfl
        | cons x r =>
          exfalso
          apply c1
          show (!(((x :: r).take (min 3 (r.length + 1))).map V.int).isEmpty) = true
          rw [show min 3 (r.length + 1) = (min 2 r.length) + 1 by omega]
          rfl
      refine ⟨(by show 1 ≤ sizeLine; decide), fun l2 nl2 => ?_⟩
      have s1 := s0.trans (same_upd (o := .lst [.int 0]) nl2)
      have nl : H l2 = none := s0.free nl2
      have e1 : (upd (upd (upd H c (.lst ((ns.take (min 3 ns.length)).map V.int))) l (.lst ((ns.take (min 3 ns.length)).map V.int))) l2 (.lst [.int 0])) l2 = some (.lst (([0] : List Int).map V.int)) := upd_same
      generalize upd (upd (upd H c (.lst ((ns.take (min 3 ns.length)).map V.int))) l (.lst ((ns.take (min 3 ns.length)).map V.int))) l2 (.lst [.int 0]) = H1 at s1 e1
      generalize l2 = l at nl e1
      generalize ems : ([0] : List Int) = ms at e1
      have m1 : 1 ≤ ms.length := by rw [← ems]; decide
      have m3 : ms.length ≤ 3 := by rw [← ems]; decide
      have h3 : 3 < ns.length → ms.length = 3 := fun z => by omega
      refine ⟨.ref a, rfl, .int 3, rfl, 3, rfl, 63, rfl, a, ns.map V.int, rfl, s1.seq hS, fun c2 nc2 => ?_⟩
      rw [cut3]
      have s2 : Same H (upd H1 c2 (.lst (((ns.drop (min 3 ns.length)).take (min 63 ns.length - min 3 ns.length)).map V.int))) := s1.trans (same_upd nc2)
      have ncl : c2 ≠ l := fun z => by
        rw [z, e1] at nc2
        cases nc2
      have hC : SqL K (upd H1 c2 (.lst (((ns.drop (min 3 ns.length)).take (min 63 ns.length - min 3 ns.length)).map V.int))) c2 (((ns.drop (min 3 ns.length)).take (min 63 ns.length - min 3 ns.length)).map V.int) := SqL.of upd_same
      have eL : (upd H1 c2 (.lst (((ns.drop (min 3 ns.length)).take (min 63 ns.length - min 3 ns.length)).map V.int))) l = some (.lst (ms.map V.int)) := by
        rw [upd_ne ncl.symm]
        exact e1
      have hlenr : ((ns.drop (min 3 ns.length)).take (min 63 ns.length - min 3 ns.length)).length = min 63 ns.length - min 3 ns.length := by
        rw [List.length_take, List.length_drop]
        omega
      generalize ((ns.drop (min 3 ns.length)).take (min 63 ns.length - min 3 ns.length)) = rest at s2 hC eL hlenr
      generalize upd H1 c2 (.lst (rest.map V.int)) = H2 at s2 hC eL
      refine ⟨c2, rest.map V.int, rfl, hC, for_it (walk_enum (K := K) (a := c2) (xs := rest.map V.int)) (fun i σ H' => ∃ (y3 y4 y5 : Option V) (zs : List Int), σ = [some (.ref a), some (.int 3), some (.ref l), y3, y4, y5] ∧ KeepTo H H2 l H' ∧ H' l = some (.lst (zs.map V.int)) ∧ zs.length = ms.length)
        ⟨none, none, none, ms, rfl, ⟨s2, fun _ _ _ e => e⟩, eL, rfl⟩ (fun i σ H' _ z => by
          obtain ⟨_, _, _, _, _, kk, _, _⟩ := z
          exact Keep.sqL (b := l) kk.2 ncl hC) ?_ ?_⟩
      · rintro i v σ H3 H4 hi ⟨y3, y4, y5, zs, rfl, kk, e3, hzl⟩ ⟨T, x, y, rfl, nT, rfl, hx, hy⟩
        cases hx
        replace hy : (rest.map V.int)[i]? = some y := hy
        rw [List.getElem?_map] at hy
        rw [List.length_map, hlenr] at hi
        cases e : rest[i]? with
        | none =>
          rw [e] at hy
          cases hy
        | some u =>
          rw [e] at hy
          cases hy
          have hz3 : zs.length = 3 := by rw [hzl]; exact h3 (by omega)
          have f0 := Int.fmod_nonneg_of_pos (i : Int) (b := 3) (by decide)
          have f1 := Int.fmod_lt_of_pos (i : Int) (b := 3) (by decide)
          have nlT : l ≠ T := ne_of_none e3 nT
          have e3T : (upd H3 T (.tup [.int (i : Nat), .int u])) l = some (.lst (zs.map V.int)) := by
            rw [upd_ne nlT]
            exact e3
          refine ⟨T, [.int (i : Nat), .int u], rfl, SqT.of upd_same, rfl, .int (i : Nat), [.int u], rfl, .int u, [], rfl, rfl, ?_⟩
          refine ⟨.int (i : Nat), rfl, .inl ⟨_, rfl, .int 3, rfl, _, _, rfl, rfl, (by show (3 : Int) ≠ 0; decide), ?_⟩⟩
          have hj : (Int.fmod (i : Int) 3).toNat < zs.length := by omega
          have hat : atI (zs.map V.int) (Int.fmod (i : Int) 3) = some (.int zs[(Int.fmod (i : Int) 3).toNat]) := by
            have za := atI_nat (j := (Int.fmod (i : Int) 3).toNat) (xs := zs.map V.int) (v := .int zs[(Int.fmod (i : Int) 3).toNat]) (by rw [List.getElem?_map, List.getElem?_eq_getElem hj]; rfl)
            rw [show (((Int.fmod (i : Int) 3).toNat : Nat) : Int) = Int.fmod (i : Int) 3 by omega] at za
            exact za
          refine ⟨.ref l, rfl, .int _, rfl, l, _, _, _, rfl, rfl, SqL.of e3T, hat, .int u, rfl, .int (i : Nat), rfl, _, _, rfl, rfl, _, _, rfl, rfl, .inr (by omega), _, _, rfl, rfl, ?_⟩
          refine ⟨.ref l, rfl, .int _, rfl, l, _, _, (Int.fmod (i : Int) 3).toNat, rfl, rfl, e3T, ?_, ?_⟩
          · unfold ixN
            rw [List.length_map, if_pos f0, if_pos (by omega)]
          · refine ⟨_, _, _, zs.set (Int.fmod (i : Int) 3).toNat (zs[(Int.fmod (i : Int) 3).toNat] + u * ((i : Int) + 2)), rfl, ⟨fun c o ec => ?_, fun c o nc ec => ?_⟩, ?_, ?_⟩
            · have q3 := kk.1 _ _ ec
              have ncl3 : c ≠ l := ne_of_none ec nl
              rw [upd_ne ncl3, upd_ne (ne_of_none q3 nT)]
              exact q3
            · have q3 := kk.2 _ _ nc ec
              rw [upd_ne nc, upd_ne (ne_of_none q3 nT)]
              exact q3
            · rw [upd_same, List.map_set]
            · rw [List.length_set]
              exact hzl
      · rintro σ H3 ⟨y3, y4, y5, zs, rfl, kk, e3, hzl⟩
        exact ⟨.ref l, rfl, q H3 l zs kk.1 nl e3 (by omega) (by omega)⟩
end
end K68
set_option maxHeartbeats 4000000
namespace CS
open PySem PySem.Spec PyProof.Rows L2
/-! ### defs that are called where no repr is under way -/
structure FnG (P : Program) (w : World) (K : PySem.W.Frag) (mg : Str → Option Value) (base : Heap) (k : Nat) (f : Addr) (fd : FuncData) (ps : List Str) (sp : Sp) : Prop where
  len : ∀ vs H Q E, sp vs H Q E → vs.length = ps.length
  run : ∀ (A : Around) (outer : List Env) (s : Shared) (H : Hp) (args : Args) (us : List Value) (vs : List V) (Q : VK) (E : XK), A.guards = some [] → Room k A → Env0 P w K mg base A outer s H → BindsTo s fd args (ps.zip us) → Vals vs us → sp vs H Q E →
    codeAny (model P w) A (.call (.ref f) args) (CR CX0 outer P w H s Q E) s
section
variable {K : PySem.W.Frag} {P : Program} {w : World} {mg : Str → Option Value} {base : Heap}
theorem fnG_mk {x qual : Str} {st : Stmt} {f : Addr} {fd : FuncData} {N ps : List Str} {k : Nat} {sp : Sp} (F : Fun K x qual st f fd) (S : FnScope N ps (defScope st)) (len : ∀ vs H Q E, sp vs H Q E → vs.length = ps.length)
    (body : ∀ (cdv : Value) (A : Around) (outer : List Env) (s : Shared) (H : Hp) (vs : List V) (Q : VK) (E : XK), (A.deeper (envOfC qual (defScope st) s.heap.objs.size f cdv)).guards = some [] → Room k (A.deeper (envOfC qual (defScope st) s.heap.objs.size f cdv)) → sp vs H Q E →
      ∃ t, PSs (cxOf CX0 P w K mg base N qual (defScope st) f cdv A outer s H E).nox (defBody st) t ∧ t { nx := fun _ H' => Q .non H', rt := Q } (start N vs) H) : FnG P w K mg base (k + 1) f fd ps sp := by
  obtain ⟨oc, od, kV, doc, pm, an, cdv, ct, osl, rfl, lk, hcd⟩ := F.ex
  refine ⟨len, fun A outer s H args us vs Q E hg hr e0 hb rv hsp => ?_⟩
  have ll := len _ _ _ _ hsp
  have kin : K.In s.heap := e0.mod.kin.keeps fun b o e => (e0.bs b o e).1
  have nl : s.heap.NoLimit := e0.mod.nolimit.keeps fun b o e => (e0.bs b o e).1
  have kinds : ∀ y ∈ ps.zip us, (defScope st).names.lookup y.1 = some .local ∨ ((defScope st).names.lookup y.1 = some .cell ∧ ((cellsFrom (s.heap.objs.size + 1) (defScope st).names []).lookup y.1).isSome = true) := by
    rintro ⟨n, v⟩ hy
    rcases S.par n (List.of_mem_zip hy).1 with z | z
    · exact .inl z
    · exact .inr ⟨z, PySem.W.cellsFrom_some _ _ _ (.inl z)⟩
  refine codeAny_call_function hr.depth (kin _ _ lk) rfl S.co S.gen rfl (PySem.W.codeRec_of kin hcd) (hb _ _ _ _ ?_)
  refine wpAny_newFunctionEnv_cells S.kind kinds fun env he s1 x => ?_
  subst he
  refine ⟨nl.keeps x.toInCall.keep, codeAny_func ?_⟩
  obtain ⟨t, ht, hq⟩ := body cdv A outer s H vs Q E hg (hr.deeper _) hsp
  have J := inv_start (CX := CX0) (E := E) S hr.hd e0 ll rv x
  refine wpAny_mono (ht.nox.run [] s1 (start N vs) H _ J hq) (fun fl s' z => ?_) fun e s' z => z
  have out : ∀ (σ' : L2.St) (H' : Hp) (v : V) (u : Value), Inv (cxOf CX0 P w K mg base N qual (defScope st) f cdv A outer s H E) [] σ' H' s' → RelV v u → Q v H' → CE outer P w H s Q u s' := fun σ' H' v u J rv q => ⟨v, H', J.os, J.bare, J.base, J.hok, rv, q⟩
  cases fl with
  | ret u =>
    obtain ⟨v, σ', H', J, rv, q⟩ := z
    exact out σ' H' v u J rv q
  | next =>
    obtain ⟨σ', H', J, q⟩ := z
    exact out σ' H' V.non Value.none J rfl q
  | brk => exact z.elim fun _ z => z.elim fun _ z => z.2.elim
  | cont => exact z.elim fun _ z => z.elim fun _ z => z.2.elim
theorem FnG.of {CX : CXT} {k : Nat} {f : Addr} {fd : FuncData} {ps : List Str} {sp : Sp} (F : FnOk P w K mg base CX0 k f fd ps sp) : FnG P w K mg base k f fd ps sp := ⟨F.len, fun A outer s H args us vs Q E _ => F.run A outer s H args us vs Q E⟩
end
section
variable {X : Cx} {k : Nat} {f : Addr} {fd : FuncData} {ps : List Str} {sp : Sp} {E : XK} {x : Str} {p pos : Pos} {e : Expr} {es : List Expr} {t : TA}
theorem pe_callG (F : FnG X.prog X.w X.K X.mg X.base k f fd ps sp) (gd : X.A.guards = some []) (hr : Room k X.A) (hg : Gl X x) (hm : X.mg x = some (.ref f)) (hk : PySem.W.keepIn X.K (.ref f) = true) (hb : Binds X.K fd ps [])
    (ha : PA X (e :: es) t) (hdb : (x == ("__debug__" : Str)) = false := by decide) (he : starEach (e :: es) X.env = (false, eval e X.env) :: starEach es X.env := by rfl) (hpl : (backTo pos (starEach es X.env)).any (·.1) = false := by rfl) :
    PE X (.Call (.Name x p) (e :: es) [] pos) (tCall sp [] E t) := by
  refine ⟨fun pins s0 σ H0 Q I0 hw => wpAny_Call_Name_kw (ld_glob I0 hg hm ?_ hdb)⟩
  refine PySem.W.callWith_K (h₀ := X.base) I0.ok.mod.kin hk (thn (ha.run pos pins s0 σ H0 _ I0 hw) fun us s1 z => ?_) he hpl
  obtain ⟨vs, H1, I1, rv, q⟩ := z
  refine ⟨I1.kIn, ?_⟩
  have q' : sp vs H1 Q E := by
    have z : sp (vs ++ []) H1 Q E := q
    rw [List.append_nil] at z
    exact z
  have ll : us.length = ps.length := by
    rw [← rv.length]
    exact F.len _ _ _ _ q'
  have bb := hb s1 us I1.kIn (by rw [List.append_nil]; exact ll)
  rw [List.append_nil] at bb
  refine wpAny_call (codeAny_mono (F.run X.A X.stack s1 H1 ⟨us, []⟩ us vs Q E gd hr I1.env0 bb rv q') fun r s' z => ?_)
  cases r with
  | error e => exact False.elim z
  | ok fl =>
    cases fl with
    | ret u => exact I1.after z
    | next => exact z.elim
    | brk => exact z.elim
    | cont => exact z.elim
/-- repr(x), x a list or a tuple of data -/
def rRepr (K : PySem.W.Frag) : List V → Hp → VK → Prop := fun xs H Q => ∃ (a : Addr) (d : PyData), xs = [.ref a] ∧ Dp K H (.ref a) d ∧ d.showable = true ∧ d.hasDict = false ∧ d.shown.length ≤ sizeLine ∧ d.depth ≤ 60 ∧ Q (.str d.shown) H
theorem call_reprD (hu : X.A.units + 64 < cLine) (gd : X.A.guards = some []) : CallR X (.builtin "repr") (rRepr X.K) := by
  intro pins s σ H xs us Q I r h
  obtain ⟨a, d, rfl, hd, hs, hn, hz, hp, q⟩ := h
  obtain ⟨u, rfl, ru⟩ := vals1 r
  obtain rfl : u = Value.ref a := ru
  obtain ⟨as, rd⟩ := Dp.reads I d (.ref a) (.ref a) hd rfl
  exact repr_of_reads' rd hs (fun z => by rw [hn] at z; cases z) gd (by omega) (fun _ _ e => e) (fun h' u tk kp => ⟨.str d.shown, H, I.kept kp, ⟨u, rfl⟩, q⟩) hz
end
end CS
namespace K68
open PySem PySem.Spec PyProof.Rows L2 CS RZ
section
variable {P : Program} {w : World} {K : PySem.W.Frag} {mg : Str → Option Value} {base : Heap}
def spRight : Sp := fun vs H Q _ => ∃ (b : Addr) (n : Nat), vs = [.ref b] ∧ BoxAt H b n ∧ n ≤ 500000 ∧ ∀ (H' : Hp) (n' : Nat), Keep b H H' → BoxAt H' b n' → n' ≤ n + 3000 → Q (.bl true) H'
def spHand : Sp := fun vs H Q _ => vs = [] ∧ ∀ H' : Hp, Same H H' → Q (.bl true) H'
def spLaw (K : PySem.W.Frag) : Sp := fun vs H Q _ => ∃ (a : Addr) (ns : List Int), vs = [.ref a] ∧ SqL K H a (ns.map V.int) ∧ ns.length ≤ 63 ∧ ∀ H', Q (.bl true) H'
abbrev nLaw : List Str := ["_law_script", "_law_cells_here", "_law_k", "_law_box_here", "_law_turn"]
theorem scLaw : FnScope nLaw ["_law_script"] (defScope sLaw) := ⟨rfl, rfl, rfl, by decide +kernel, rfl, by decide +kernel, by decide +kernel⟩
theorem ok_law {f gh gc gr gb : Addr} {fd dh dc dr db : FuncData} {k : Nat} (F : Fun K "law" "law" sLaw f fd)
    (Gh : FnOk P w K mg base CX0 k gh dh [] spHand) (bh : Binds K dh [] []) (kh : PySem.W.keepIn K (.ref gh) = true) (mh : mg "_law_by_hand_right" = some (.ref gh))
    (Gc : FnOk P w K mg base CX0 k gc dc ["_law_script", "_law_most_so"] (spCells K)) (bc : Binds K dc ["_law_script", "_law_most_so"] []) (kc : PySem.W.keepIn K (.ref gc) = true) (mc : mg "_law_cells" = some (.ref gc))
    (Gr : FnG P w K mg base k gr dr ["_law_box_here"] spRight) (br : Binds K dr ["_law_box_here"] []) (kr : PySem.W.keepIn K (.ref gr) = true) (mR : mg "_law_right" = some (.ref gr))
    (Gb : FnOk P w K mg base CX0 k gb db ["_law_script", "_law_k"] (spBox K)) (bb : Binds K db ["_law_script", "_law_k"] []) (kb : PySem.W.keepIn K (.ref gb) = true) (mb : mg "_law_box" = some (.ref gb)) (mr : mg "range" = none) (ma : mg "all" = none) (ml : mg "len" = none) :
    FnG P w K mg base (k + 1) f fd ["_law_script"] (spLaw K) := by
  refine fnG_mk F scLaw (fun vs H Q E h => ?_) (fun cdv A outer s H vs Q E gd hr h => ?_)
  · obtain ⟨a, ns, rfl, _⟩ := h
    rfl
  · obtain ⟨a, ns, rfl, hS, hn, q⟩ := h
    refine ⟨_, pss_cons (ps_set (i := 1) scLaw.nd rfl (.inl rfl) (pe_call Gc hr (by rfl) mc kc bc .nil pass0 (pa_cons (pv 0) (pa_cons pe_int pa_nil))))
      (pss_cons (ps_if (pt_not (pt_val (pe_call0 Gh hr (by rfl) mh kh bh .nil pass0))) (pss_one (ps_ret pe_bl)) pss_nil)
      (pss_cons (ps_for PassesOwn.never rfl (pi_range1 (by rfl) mr (pa_cons (pe_callB call_len_seq (by rfl) ml PySem.boot_len (pa_cons (pv 1) pa_nil)) pa_nil)) (pg_name (i := 2) scLaw.nd rfl (.inl rfl))
        (pss_cons (ps_set (i := 3) scLaw.nd rfl (.inr rfl) (pe_call Gb hr (by rfl) mb kb bb .nil pass0 (pa_cons (pv 1) (pa_cons (pv 2) pa_nil))))
        (pss_one (ps_if (pt_not (pt_val (pe_callB (cr_all rfl) (by rfl) ma (by decide +kernel) (pa_cons (pe_lc (own := [("_law_turn", 4)]) (g := gName 4) (by rfl) scLaw.nd (pi_range1 (by rfl) mr (pa_cons pe_int pa_nil))
          (blkOk_by (own := [("_law_turn", 4)]) (N := nLaw) (sc := defScope sLaw) (by decide +kernel)) (fun _ _ _ _ _ => pg_name (i := 4) scLaw.nd rfl (Or.inl rfl) (.inr rfl)) (fun _ _ _ _ _ => pts_nil)
          (fun _ _ _ _ _ => pe_callG (E := E0) Gr gd hr (by rfl) mR kr br (pa_cons (pv 3) pa_nil))) pa_nil)))) (pss_one (ps_ret pe_bl)) pss_nil))))
      (pss_one (ps_ret pe_bl)))), ?_⟩
    refine ⟨.ref a, rfl, a, ns, rfl, hS, hn, fun H2 p ms s2 _ e2 m1 m3 => ?_⟩
    refine ⟨rfl, fun H3 s3 => ⟨_, rfl, ?_⟩⟩
    refine ite2 (fun z => by cases z) (fun _ => ?_)
    refine ⟨.ref p, rfl, p, _, rfl, .inl (SqL.of (s3 _ _ e2)), _, rfl, (by rw [List.length_map]; omega), (by rw [List.length_map]; omega), for_range (fun i σ H' => ∃ (y2 y3 : Option V), σ = [some (.ref a), some (.ref p), y2, y3, none] ∧ H' p = some (.lst (ms.map V.int))) ⟨none, none, rfl, s3 _ _ e2⟩ ?_ ?_⟩
    · rintro i σ H4 hi ⟨y2, y3, rfl, e4⟩
      rw [List.length_map] at hi
      have hi' : i < ms.length := by omega
      refine ⟨.ref p, rfl, .int (0 + (i : Nat)), rfl, p, ms, i, (by rw [Int.zero_add]; rfl), SqL.of e4, hi', by omega, fun H5 b s5 nb b5 => ?_⟩
      have npb : p ≠ b := ne_of_none e4 nb
      refine ⟨6, rfl, by decide, by decide, fun D nD => lc_range (fun j H' => ∃ n : Nat, BoxAt H' b n ∧ n ≤ 3000 * j ∧ H' p = some (.lst (ms.map V.int)) ∧ H' D = some (.lst ((List.replicate j true).map V.bl))) ⟨0, b5.same (same_upd nD), by omega, ?_, upd_same⟩ ?_ ?_⟩
      · rw [upd_ne (ne_of_none (s5 _ _ e4) nD)]
        exact s5 _ _ e4
      · rintro j H6 hj ⟨n, b6, hn6, e6, eD⟩
        have hj5 : j < 6 := hj
        have npD : p ≠ D := ne_of_none (s5 _ _ e4) nD
        obtain ⟨bA, bB, bC, eb, _⟩ := b5
        have nDb : D ≠ b := fun z => by rw [z, eb] at nD; cases nD
        refine ⟨rfl, ?_⟩
        unfold tYes
        refine ite2 (fun _ => ?_) (fun z => absurd rfl z)
        refine ⟨.ref b, rfl, b, n, rfl, b6, by omega, fun H7 n7 k7 b7 h7 => ?_⟩
        refine ⟨_, k7 _ _ nDb eD, ?_, n7, ?_, by omega, ?_, ?_⟩
        · rw [List.length_map, List.length_replicate]
          exact small1000 (by omega)
        · obtain ⟨A7, B7, C7, e7, r7⟩ := b7
          exact ⟨A7, B7, C7, by rw [upd_ne (Ne.symm nDb)]; exact e7, r7⟩
        · rw [upd_ne npD]
          exact k7 _ _ npb e6
        · rw [upd_same, List.replicate_succ', List.map_append]
          rfl
      · rintro H6 ⟨n, b6, hn6, e6, eD⟩
        refine ⟨D, _, rfl, SqL.of eD, _, rfl, ?_⟩
        rw [all_yes]
        refine ite2 (fun z => by cases z) (fun _ => ?_)
        exact ⟨_, _, rfl, e6⟩
    · rintro σ H4 ⟨y2, y3, rfl, e4⟩
      exact q H4
end
end K68
/-! an error that is caught and used behind its except clause: it is tracked like any other object -/
namespace CS
open PySem PySem.Spec PyProof.Rows L2
/-- at a: an error of the class cls, its dict at d -/
def XO (cls : Value) (d : Option Addr) (a : Addr) : HO := .ext fun h => ∃ (ob : Obj) (ws : Array Value), h.get? a = some ob ∧ Zc cls d ob ∧ ob.data = .fields ws
end CS
set_option maxHeartbeats 4000000
/-! isinstance and the fields of an error that is tracked -/
namespace PySem.W
open PySem PySem.Spec PySem.Calls PyProof.Rows
section
variable {prog : Program} {w : World} {A : Around} {E : Value → Shared → Prop} {s : Shared} {K : Frag} {x D : Addr} {ox : Obj} {od : Option Obj}
/-- what the class D says of its instances' __class__ -/
structure CsxC (K : Frag) (D : Addr) : Prop where
  hg : findIn K (.ref D) "__getattribute__" = some (some (.builtin "BaseException.__getattribute__"))
  hk : findIn K (.ref D) "__getattr__" = some none
  hs : subIn K (.ref D) (.type "BaseException") = some true
  hd : hasDictIn K D = true
  ha : findIn K (.ref D) "__class__" = some (some (.builtin "object.__class__"))
  hn : specialIn K (.builtin "object.__class__") "__get__" = some (some (.builtin "getset_descriptor.__get__"))
  ht : takesIn K (.builtin "object.__class__") = some true
  hm : mroIn K D (.type "object") = some true
end
end PySem.W
namespace CS
open PySem PySem.Spec PyProof.Rows L2
end CS
set_option maxHeartbeats 4000000
/-! an own error class called by keywords alone -/
namespace PySem
end PySem
set_option maxHeartbeats 4000000
/-! own errors whose __init__ stores fields, as values; over ValueError or LookupError -/
namespace PySem
namespace CSE
open PySem.W PySem.Calls PyProof.Rows PySem.HandSPX
section
open Builtin Builtin.ObjectAttr
variable {prog : Program} {w : World} {A : Around} {E : Value → Shared → Prop} {R : Result → Shared → Prop} {hp : Heap} {g : Array GenState} {d : Drawn} {t : Nat} {os : OsState} {K : W.Frag} {B : String} {bm : List Value}
theorem taker_none {C : Addr} {nm : Str} (h : W.findIn K (.ref C) nm = some none) : W.takerIn K C nm = some none := by
  unfold W.takerIn
  rw [h]
  rfl
theorem first_store {nm : Str} {tk : Tok} {v : Value} {x C : Addr} {fv : Array Value} (SF : StoreFacts B bm "object.__setattr__" "object") (X : K.In hp) (hx : hp.get? x = some { cls := .ref C, data := .fields fv }) (over : W.excOver K C bm = true) (hh : W.hasDictIn K C = true) (no : W.findIn K (.ref C) nm = some none)
    (fin : ∀ h' tk' dx, (∀ b o, b ≠ x → hp.get? b = some o → h'.get? b = some o) → hp.objs.size ≤ dx → dx ≠ x → h'.get? x = some { cls := .ref C, dict := some dx, data := .fields fv } → h'.Ns1 dx (fun y => if y = nm then some v else none) → R (.ok (.ret .none)) ⟨h', g, d, tk', os⟩) :
    codeAny (model prog w) A (.call (.builtin "object.__setattr__") ⟨[.ref x, .str nm tk, v], []⟩) R ⟨hp, g, d, t, os⟩ := by
  have inst : W.InstAt hp x { cls := .ref C, data := .fields fv } C none := ⟨hx, rfl, rfl, trivial⟩
  refine W.osa_openX (s := ⟨hp, g, d, t, os⟩) SF X inst over (taker_none no) fun b => ?_
  obtain ⟨cd, hc, hd⟩ := any_some hh
  have known : W.Looks (model prog w) hp (classData C) cd := W.looks_clsIn X hc
  have far : x ≠ hp.objs.size := Nat.ne_of_lt (Heap.lt_size hx)
  show wpAny _ _ (storeInOwnDict (.ref x) (.ref C) (.str nm tk) nm v b) _ _ _
  obtain ⟨n1, n2, n3, n4, n5, has, n6, n7, n8, n9, n0⟩ := cd
  dsimp only at hd
  subst hd
  unfold storeInOwnDict ownDictForStores
  repeat (first | with_reducible refine HandSPX.store_in_new ?_ ?_ | with_reducible refine known.at ?_ | with_reducible refine wpAny_loadPart_at hx ?_ | wp_step)
  · exact ⟨_, #[], _, (Heap.get?_update_ne _ _ _ _ far.symm).trans (Heap.get?_push_at rfl rfl), rfl, fun e he => absurd he (by simp), fun _ => rfl⟩
  · intro h' tk' named same
    have here : (hp.push { cls := .type "dict", data := .dict #[] }).get? x = some { cls := .ref C, data := .fields fv } := Heap.get?_push_of_some _ hx
    refine fin h' tk' hp.objs.size (fun b o hb ho => ?_) (Nat.le_refl _) far.symm ((same.2 x far).trans (Heap.get?_update_self _ here rfl)) named
    have old : b ≠ hp.objs.size := Nat.ne_of_lt (Heap.lt_size ho)
    exact (same.2 b old).trans ((Heap.get?_update_ne _ _ _ _ hb).trans (Heap.get?_push_of_some _ ho))
theorem next_store {nm : Str} {tk : Tok} {v : Value} {x C dx : Addr} {fv : Array Value} {m0 : Str → Option Value} {nl : List Str} (SF : StoreFacts B bm "object.__setattr__" "object") (X : K.In hp) (hx : hp.get? x = some { cls := .ref C, dict := some dx, data := .fields fv }) (hn : hp.Ns1 dx m0) (hw : Within m0 nl) (hz : nl.length ≤ 1000)
    (over : W.excOver K C bm = true) (hh : W.hasDictIn K C = true) (no : W.findIn K (.ref C) nm = some none) (fin : ∀ h' tk', (∀ b o, b ≠ dx → hp.get? b = some o → h'.get? b = some o) → h'.Ns1 dx (fun y => if y = nm then some v else m0 y) → R (.ok (.ret .none)) ⟨h', g, d, tk', os⟩) :
    codeAny (model prog w) A (.call (.builtin "object.__setattr__") ⟨[.ref x, .str nm tk, v], []⟩) R ⟨hp, g, d, t, os⟩ := by
  obtain ⟨oD, _, _, hoD, _, _⟩ := hn.count hw
  have inst : W.InstAt hp x { cls := .ref C, dict := some dx, data := .fields fv } C (some oD) := ⟨hx, rfl, rfl, hoD⟩
  refine W.osa_openX (s := ⟨hp, g, d, t, os⟩) SF X inst over (taker_none no) fun b => ?_
  obtain ⟨cd, hc, hd⟩ := any_some hh
  have known : W.Looks (model prog w) hp (classData C) cd := W.looks_clsIn X hc
  show wpAny _ _ (storeInOwnDict (.ref x) (.ref C) (.str nm tk) nm v b) _ _ _
  obtain ⟨n1, n2, n3, n4, n5, has, n6, n7, n8, n9, n0⟩ := cd
  dsimp only at hd
  subst hd
  unfold storeInOwnDict ownDictForStores
  repeat (first | with_reducible refine PySem.OEX.store_in_old hn hw hz ?_ | with_reducible refine known.at ?_ | with_reducible refine wpAny_loadPart_at hx ?_ | wp_step)
  intro h' tk' named same
  exact fin h' tk' (fun b o hb ho => (same.2 b hb).trans ho) named
end
end CSE
end PySem
namespace CS
open PySem PySem.Spec PyProof.Rows L2
/-- what the written part says of an own error class whose __init__ stores fields -/
structure OxC (K : PySem.W.Frag) (C fI : Addr) : Prop where
  base : ∃ (B newId initId : String) (bm : List Value), ExcBaseFacts B newId initId bm ∧ StoreFacts B bm "object.__setattr__" "object" ∧ PySem.W.excOver K C bm = true ∧ ∃ nm q N bs sn sub ab col dd k0 k1 k2 k3 k5, K.lookup C = some (excClassObj nm q C N bs bm true sn sub ab col dd k0 k1 k2 k3 k5 newId)
  sa : PySem.W.findIn K (.ref C) "__setattr__" = some (some (.builtin "object.__setattr__"))
  hd : PySem.W.hasDictIn K C = true
  kC : PySem.W.keepIn K (.ref C) = true
  iC : PySem.W.findIn K (.ref C) "__init__" = some (some (.ref fI))
  tI : PySem.W.typeIn K (.ref fI) = some (.type "function")
section
variable {X : Cx} {pins : List (Addr × Obj)} {σ : L2.St} {H : Hp} {s : Shared} {a C fI dx : Addr} {f : Str} {y : V} {u : Value} {fs : List (Str × V)} {Q : Unit → Shared → Prop} {E : Value → Shared → Prop} {A : Around}
theorem ox_new (T : OxC X.K C fI) (I : Inv X pins σ H s) (e : H a = some (exo a C none)) (no : PySem.W.findIn X.K (.ref C) f = some none) (ry : RelV y u)
    (k : ∀ dx s', H dx = none → dx ≠ a → Inv X pins σ (upd (upd H dx (exd dx [(f, y)])) a (exo a C (some dx))) s' → Q () s') : wpAny (model X.prog X.w) A (setAttr (.ref a) f u) Q E s := by
  obtain ⟨B, newId, initId, bm, _, SF, over, _⟩ := T.base
  obtain ⟨t1, ho⟩ := exo_at I.hok e
  obtain ⟨hp, g, d, t, os⟩ := s
  refine PySem.W.set_plain I.kIn (ox := { cls := .ref C, dict := none, data := .fields #[.ref t1, .none, .none, .none, .bool false, .none] }) (od := none) ⟨ho, rfl, rfl, trivial⟩ T.sa ?_
  refine PySem.CSE.first_store SF I.kIn ho over T.hd no fun h' tk' dx keep beyond apart hx named => ?_
  have fresh : H dx = none := I.hok.fresh beyond
  have older : ∀ {b : Addr} {o : Obj}, hp.get? b = some o → b ≠ dx := fun {b o} z => Nat.ne_of_lt (Nat.lt_of_lt_of_le (Heap.lt_size z) beyond)
  have notA : ∀ {b : Addr}, H b = none → b ≠ a := fun {b} n z => by
    rw [z, e] at n
    cases n
  refine k dx _ fresh apart (I.un (t' := tk') ⟨fun b o z n _ _ => keep b o (notA n) z, fun b o z n _ _ => ⟨o.slots, keep b o (notA n) z⟩, fun b o z n _ => ?_, fun b o z _ => ?_, fun b xs z => ?_, fun b o v z => ?_, fun b ps z => ⟨#[], ?_⟩⟩ fun b o z => ?_)
  · rw [upd_ne (notA n), upd_ne (older z)]
    exact n
  · by_cases c : b = a
    · rw [c]
      exact ⟨_, hx⟩
    · exact ⟨o, keep b o c z⟩
  · rw [upd_ne (at_ne e z exo_tup), upd_ne (ne_of_none z fresh)]
    exact z
  · rw [upd_ne (at_ne e z exo_frz), upd_ne (ne_of_none z fresh)]
    exact z
  · rw [upd_ne (at_ne e z exo_tbl), upd_ne (ne_of_none z fresh), z]
    simp
  · by_cases c : b = a
    · subst c
      rw [upd_same] at z
      cases z
      exact exo_ok hx
    · rw [upd_ne c] at z
      by_cases c2 : b = dx
      · subst c2
        rw [upd_same] at z
        cases z
        exact exd_ok named (relO_put (fs := []) ry fun _ => True.intro)
      · rw [upd_ne c2] at z
        refine (I.hok b o z).stay (fun c3 v hc r => keep c3 v ?_ r) (fun c3 hc => ?_) fun c3 xs hc => ?_
        · rcases hc with hc | hc
          · rw [hc]
            exact c
          · exact at_ne e hc exo_own
        · rw [upd_ne (at_ne e hc exo_own), upd_ne (ne_of_none hc fresh)]
          exact hc
        · rw [upd_ne (at_ne e hc exo_tup), upd_ne (ne_of_none hc fresh)]
          exact hc
theorem ox_old (T : OxC X.K C fI) (I : Inv X pins σ H s) (e : H a = some (exo a C (some dx))) (ed : H dx = some (exd dx fs)) (hl : fs.length ≤ 900) (no : PySem.W.findIn X.K (.ref C) f = some none) (ry : RelV y u)
    (k : ∀ s', Inv X pins σ (upd H dx (exd dx ((f, y) :: fs))) s' → Q () s') : wpAny (model X.prog X.w) A (setAttr (.ref a) f u) Q E s := by
  obtain ⟨B, newId, initId, bm, _, SF, over, _⟩ := T.base
  obtain ⟨t1, ho⟩ := exo_at I.hok e
  obtain ⟨mA, named, rel⟩ := exd_at I.hok ed
  have inside := within_of rel
  obtain ⟨hp, g, d, t, os⟩ := s
  obtain ⟨oD, _, _, hoD, _, _⟩ := named.count inside
  refine PySem.W.set_plain I.kIn (ox := { cls := .ref C, dict := some dx, data := .fields #[.ref t1, .none, .none, .none, .bool false, .none] }) (od := some oD) ⟨ho, rfl, rfl, hoD⟩ T.sa ?_
  refine PySem.CSE.next_store SF I.kIn ho named inside (by rw [List.length_map]; omega) over T.hd no fun h' tk' keep named' => ?_
  have there : ∃ o, h'.get? dx = some o := by
    obtain ⟨o, _, _, z, _⟩ := named'
    exact ⟨o, z⟩
  exact k _ (I.write (t' := tk') (x := dx) (e := dx) (o := exd dx ((f, y) :: fs)) (by rw [ed]; exact True.intro) (.inl rfl) keep there (exd_ok named' (relO_put ry rel)))
/-- self.f = e -/
def tOx (K : PySem.W.Frag) (f : Str) (to te : TE) : TS := fun D σ H => te σ H fun y H1 => to σ H1 fun x H2 => ∃ a C fI : Addr, x = .ref a ∧ OxC K C fI ∧ PySem.W.findIn K (.ref C) f = some none ∧
  ((H2 a = some (exo a C none) ∧ ∀ dx, H2 dx = none → dx ≠ a → D.nx σ (upd (upd H2 dx (exd dx [(f, y)])) a (exo a C (some dx)))) ∨ ∃ (dx : Addr) (fs : List (Str × V)), H2 a = some (exo a C (some dx)) ∧ H2 dx = some (exd dx fs) ∧ fs.length ≤ 900 ∧ D.nx σ (upd H2 dx (exd dx ((f, y) :: fs))))
theorem ps_ox {o e : Expr} {to te : TE} {p' pos : Pos} (ho : PE X o to) (he : PE X e te) (hs : swapsWith e (some (.Attribute o f p')) pos.line X.env = pure false := by rfl) : PS X (.Assign [.Attribute o f p'] e pos) (tOx X.K f to te) := by
  constructor
  intro pins s σ H D I h
  refine plainObj_wpAny_Assign_Attribute (thn (he.run pins s σ H _ I h) (fun v t ⟨y, H1, J1, ry, q1⟩ => ?_)) hs
  refine thn (ho.run pins t σ H1 _ J1 q1) fun w t2 ⟨x, H2, J2, rx, a, C, fI, ex, T, no, way⟩ => ?_
  subst ex
  cases rx
  rcases way with ⟨ea, q⟩ | ⟨dx, fs, ea, ed, hl, q⟩
  · exact ox_new T J2 ea no ry fun dx t3 n ne J => ⟨σ, _, J, q dx n ne⟩
  · exact ox_old T J2 ea ed hl no ry fun t3 J => ⟨σ, _, J, q⟩
end
end CS
set_option maxHeartbeats 4000000
namespace CS
open PySem PySem.Spec PyProof.Rows L2
/-! ### C(e, ..), C(k = e, ..): an error as a value -/
end CS
namespace CS
open PySem PySem.Spec PySem.Calls PyProof.Rows
/-! ### sorted of a tuple -/
end CS
namespace CS
open PySem PySem.Spec PyProof.Rows L2
/-! ### sorted of a list of data -/
/-! ### pairs of texts -/
def tx (p : Str × Str) : PyData := .tuple [.str p.1, .str p.2]
def leP (p q : Str × Str) : Bool := PySem.W.dataLe false tx p q
theorem leP_total : PySem.W.TotalLe leP := PySem.W.sortLe_total (listOrd itemOrd) false fun b => PySem.W.keyToks (tx b)
theorem eqv_str (a b : Str) : PyData.eqv (.str a) (.str b) = decide (a = b) := by
  simp only [PyData.eqv]
  exact Bool.beq_eq_decide_eq a b
end CS
namespace RM
open PySem PySem.Spec PyProof.Rows L2 CS RZ
/-! ### values as data: dicts, objects, errors and the box of draws are marked dicts -/
abbrev D := PyData
def boxD : D := .dict [(.none, .none)]
def dK (kvs : List (D × D)) : D := .dict ((.none, .bool false) :: kvs)
def dT (kvs : List (D × D)) : D := .dict ((.none, .bool true) :: kvs)
def obj (c : Nat) (fs : List (D × D)) : D := .dict ((.none, .int (c : Nat)) :: fs)
def exc (c : Nat) (fs : List (D × D)) : D := .dict ((.none, .list [.int (c : Nat)]) :: fs)
def kD : L2.Key → D
  | .inl i => .int i
  | .inr s => .str s
/-- the program's classes, by number; the box -/
structure Tab where
  K : PySem.W.Frag
  cls : Nat → Addr
  bx : Option Addr
mutual
inductive Is (T : Tab) (H : Hp) : V → D → Prop
  | non : Is T H .non .none
  | bl (b : Bool) : Is T H (.bl b) (.bool b)
  | int (i : Int) : Is T H (.int i) (.int i)
  | str (x : Str) : Is T H (.str x) (.str x)
  | lst {a : Addr} {xs : List V} {ds : List D} : H a = some (.lst xs) → IsL T H xs ds → Is T H (.ref a) (.list ds)
  | tup {a : Addr} {xs : List V} {ds : List D} : SqT T.K H a xs → IsL T H xs ds → Is T H (.ref a) (.tuple ds)
  | box {a : Addr} : T.bx = some a → Is T H (.ref a) (.dict [(.none, .none)])
  | dk {a : Addr} {kvs : List (L2.Key × V)} {ks : List (D × D)} : Rd H a (.dK kvs) → IsK T H kvs ks → Is T H (.ref a) (.dict ((.none, .bool false) :: ks))
  | dt {a : Addr} {kvs : List (List L2.Key × V)} {ks : List (D × D)} : Rd H a (.dT kvs) → IsT T H kvs ks → Is T H (.ref a) (.dict ((.none, .bool true) :: ks))
  | obj {a dx : Addr} {c : Nat} {us : List (Str × V)} {fs : List (D × D)} : H a = some (.ins (T.cls c) dx us) → H dx = some (.own a) → IsF T H us fs → Is T H (.ref a) (.dict ((.none, .int (c : Nat)) :: fs))
  | exc {a dd : Addr} {c : Nat} {us : List (Str × V)} {fs : List (D × D)} : H a = some (XO (.ref (T.cls c)) (some dd) a) → H dd = some (.xd us) → IsF T H us fs → Is T H (.ref a) (.dict ((.none, .list [.int (c : Nat)]) :: fs))
  | exn {a : Addr} {c : Nat} : H a = some (XO (.ref (T.cls c)) none a) → Is T H (.ref a) (.dict ((.none, .list [.int (c : Nat)]) :: []))
inductive IsL (T : Tab) (H : Hp) : List V → List D → Prop
  | nil : IsL T H [] []
  | cons {v : V} {vs : List V} {d : D} {ds : List D} : Is T H v d → IsL T H vs ds → IsL T H (v :: vs) (d :: ds)
inductive IsK (T : Tab) (H : Hp) : List (L2.Key × V) → List (D × D) → Prop
  | nil : IsK T H [] []
  | cons {k : L2.Key} {v : V} {vs : List (L2.Key × V)} {d : D} {ds : List (D × D)} : Is T H v d → IsK T H vs ds → IsK T H ((k, v) :: vs) ((kD k, d) :: ds)
inductive IsT (T : Tab) (H : Hp) : List (List L2.Key × V) → List (D × D) → Prop
  | nil : IsT T H [] []
  | cons {k : List L2.Key} {v : V} {vs : List (List L2.Key × V)} {d : D} {ds : List (D × D)} : Is T H v d → IsT T H vs ds → IsT T H ((k, v) :: vs) ((.tuple (k.map kD), d) :: ds)
inductive IsF (T : Tab) (H : Hp) : List (Str × V) → List (D × D) → Prop
  | nil : IsF T H [] []
  | cons {f : Str} {v : V} {vs : List (Str × V)} {d : D} {ds : List (D × D)} : Is T H v d → IsF T H vs ds → IsF T H ((f, v) :: vs) ((.str f, d) :: ds)
end
section
variable {T : Tab} {H H' : Hp}
theorem rd_same {a : Addr} {u : HO} (s : Same H H') (h : Rd H a u) : Rd H' a u := by
  rcases h with h | ⟨o, h⟩
  · exact .inl (s _ _ h)
  · exact .inr ⟨o, s _ _ h⟩
theorem sqt_same {K : PySem.W.Frag} {a : Addr} {xs : List V} (e : Same H H') (h : SqT K H a xs) : SqT K H' a xs := by
  rcases h with h | h
  · exact .inl (rd_same e h)
  · exact .inr h
mutual
theorem Is.same (s : Same H H') : ∀ {v : V} {d : D}, Is T H v d → Is T H' v d
  | _, _, .non => .non
  | _, _, .bl b => .bl b
  | _, _, .int i => .int i
  | _, _, .str x => .str x
  | _, _, .lst h r => .lst (s _ _ h) (IsL.same s r)
  | _, _, .tup h r => .tup (sqt_same s h) (IsL.same s r)
  | _, _, .box h => .box h
  | _, _, .dk h r => .dk (rd_same s h) (IsK.same s r)
  | _, _, .dt h r => .dt (rd_same s h) (IsT.same s r)
  | _, _, .obj h1 h2 r => .obj (s _ _ h1) (s _ _ h2) (IsF.same s r)
  | _, _, .exc h1 h2 r => .exc (s _ _ h1) (s _ _ h2) (IsF.same s r)
  | _, _, .exn h => .exn (s _ _ h)
theorem IsL.same (s : Same H H') : ∀ {v : List V} {d : List D}, IsL T H v d → IsL T H' v d
  | _, _, .nil => .nil
  | _, _, .cons h r => .cons (Is.same s h) (IsL.same s r)
theorem IsK.same (s : Same H H') : ∀ {v : List (L2.Key × V)} {d : List (D × D)}, IsK T H v d → IsK T H' v d
  | _, _, .nil => .nil
  | _, _, .cons h r => .cons (Is.same s h) (IsK.same s r)
theorem IsT.same (s : Same H H') : ∀ {v : List (List L2.Key × V)} {d : List (D × D)}, IsT T H v d → IsT T H' v d
  | _, _, .nil => .nil
  | _, _, .cons h r => .cons (Is.same s h) (IsT.same s r)
theorem IsF.same (s : Same H H') : ∀ {v : List (Str × V)} {d : List (D × D)}, IsF T H v d → IsF T H' v d
  | _, _, .nil => .nil
  | _, _, .cons h r => .cons (Is.same s h) (IsF.same s r)
end
/-! data without marked dicts -/
mutual
def plain : D → Bool
  | .list ds => plains ds
  | .tuple ds => plains ds
  | .dict _ => false
  | _ => true
def plains : List D → Bool
  | [] => true
  | d :: ds => plain d && plains ds
end
mutual
theorem Is.dp : ∀ {v : V} {d : D}, Is T H v d → plain d = true → Dp T.K H v d
  | _, _, .non, _ => .non
  | _, _, .bl b, _ => .bl b
  | _, _, .int i, _ => .int i
  | _, _, .str x, _ => .str x
  | _, _, .lst h r, p => .lst (SqL.of h) (IsL.dp r p)
  | _, _, .tup h r, p => .tup h (IsL.dp r p)
  | _, _, .box _, p => by cases p
  | _, _, .dk _ _, p => by cases p
  | _, _, .dt _ _, p => by cases p
  | _, _, .obj _ _ _, p => by cases p
  | _, _, .exc _ _ _, p => by cases p
  | _, _, .exn _, p => by cases p
theorem IsL.dp : ∀ {v : List V} {d : List D}, IsL T H v d → plains d = true → DpAll T.K H v d
  | _, _, .nil, _ => .nil
  | _, _, .cons h r, p => .cons (Is.dp h (Bool.and_eq_true_iff.mp p).1) (IsL.dp r (Bool.and_eq_true_iff.mp p).2)
end
theorem IsL.length : ∀ {v : List V} {d : List D}, IsL T H v d → v.length = d.length
  | _, _, .nil => rfl
  | _, _, .cons _ r => by rw [List.length_cons, List.length_cons, r.length]
theorem IsL.get : ∀ {v : List V} {d : List D}, IsL T H v d → ∀ {i : Nat} {x : D}, d[i]? = some x → ∃ y, v[i]? = some y ∧ Is T H y x
  | _, _, .nil, _, _, e => by cases e
  | _, _, .cons h r, 0, _, e => by cases e; exact ⟨_, rfl, h⟩
  | _, _, .cons h r, i + 1, x, e => by
    obtain ⟨y, e1, e2⟩ := r.get (i := i) (x := x) e
    exact ⟨y, e1, e2⟩
theorem IsL.append : ∀ {v w : List V} {d e : List D}, IsL T H v d → IsL T H w e → IsL T H (v ++ w) (d ++ e)
  | _, _, _, _, .nil, s => s
  | _, _, _, _, .cons h r, s => .cons h (r.append s)
theorem IsL.take : ∀ {v : List V} {d : List D} (n : Nat), IsL T H v d → IsL T H (v.take n) (d.take n)
  | _, _, 0, _ => .nil
  | _, _, _ + 1, .nil => .nil
  | _, _, n + 1, .cons h r => .cons h (r.take n)
theorem IsL.drop : ∀ {v : List V} {d : List D} (n : Nat), IsL T H v d → IsL T H (v.drop n) (d.drop n)
  | _, _, 0, r => r
  | _, _, _ + 1, .nil => .nil
  | _, _, n + 1, .cons _ r => r.drop n
theorem IsL.set {x : V} {y : D} (hx : Is T H x y) : ∀ {v : List V} {d : List D} (n : Nat), IsL T H v d → IsL T H (v.set n x) (d.set n y)
  | _, _, _, .nil => .nil
  | _, _, 0, .cons _ t => .cons hx t
  | _, _, i + 1, .cons q t => .cons q (IsL.set hx i t)
theorem IsL.eraseIdx : ∀ {v : List V} {d : List D} (n : Nat), IsL T H v d → IsL T H (v.eraseIdx n) (d.eraseIdx n)
  | _, _, _, .nil => .nil
  | _, _, 0, .cons _ t => t
  | _, _, i + 1, .cons q t => .cons q (IsL.eraseIdx i t)
theorem IsL.reverse : ∀ {v : List V} {d : List D}, IsL T H v d → IsL T H v.reverse d.reverse
  | _, _, .nil => .nil
  | _, _, .cons h r => by
    rw [List.reverse_cons, List.reverse_cons]
    exact (IsL.reverse r).append (.cons h .nil)
end
end RM
namespace RM
open PySem PySem.Spec PyProof.Rows L2 CS RZ
/-- the box of draws at b: what is left of the number, the seed, how often it was asked -/
def BoxAt (H : Hp) (b : Addr) (n : Nat) : Prop := ∃ A B C : Int, H b = some (.lst [.int A, .int B, .int C]) ∧ 0 ≤ A ∧ 0 ≤ B ∧ B < 2 ^ 62 ∧ 0 ≤ C ∧ C ≤ n
/-- a def's activation: the classes and the box, the addresses hidden from its values, the heap at its entry -/
structure Ctx where
  T : Tab
  Z : Addr → Prop
  H0 : Hp
  slf : Option Addr := none
  B : Hp := fun _ => none
/-- a marked object -/
def isObjD : D → Bool
  | .dict ((.none, .int _) :: _) => true
  | _ => false
/-- a slot: a value, or a list, a dict, an object that this frame alone knows -/
inductive Sl where
  | v (d : D)
  | own (d : D)
abbrev En := List (Option Sl)
abbrev Ow := Nat → Option Addr
def now : Ow := fun _ => none
open Classical in
noncomputable def hid (C : Ctx) (O : Ow) (H : Hp) : Hp := fun a => if C.Z a ∨ ∃ i, O i = some a then none else H a
inductive OwnAt (T : Tab) (Hh H : Hp) (p : Addr) : D → Prop
  | lst {xs : List V} {ds : List D} : H p = some (.lst xs) → IsL T Hh xs ds → OwnAt T Hh H p (.list ds)
  | dk {kvs : List (L2.Key × V)} {ks : List (D × D)} : H p = some (.dK kvs) → IsK T Hh kvs ks → OwnAt T Hh H p (.dict ((.none, .bool false) :: ks))
  | dt {kvs : List (List L2.Key × V)} {ks : List (D × D)} : H p = some (.dT kvs) → IsT T Hh kvs ks → OwnAt T Hh H p (.dict ((.none, .bool true) :: ks))
  | obj {dx : Addr} {c : Nat} {us : List (Str × V)} {fs : List (D × D)} : H p = some (.ins (T.cls c) dx us) → Hh dx = some (.own p) → IsF T Hh us fs → OwnAt T Hh H p (.dict ((.none, .int (c : Nat)) :: fs))
theorem OwnAt.some {T : Tab} {Hh H : Hp} {p : Addr} {d : D} (h : OwnAt T Hh H p d) : ∃ o, H p = some o := by
  cases h with
  | lst h _ => exact ⟨_, h⟩
  | dk h _ => exact ⟨_, h⟩
  | dt h _ => exact ⟨_, h⟩
  | obj h _ _ => exact ⟨_, h⟩
theorem OwnAt.same {T : Tab} {Hh H Hh' H' : Hp} {p : Addr} {d : D} (h : OwnAt T Hh H p d) (s : Same Hh Hh') (e : H' p = H p) : OwnAt T Hh' H' p d := by
  cases h with
  | lst h r => exact .lst (e.trans h) (r.same s)
  | dk h r => exact .dk (e.trans h) (r.same s)
  | dt h r => exact .dt (e.trans h) (r.same s)
  | obj h h2 r => exact .obj (e.trans h) (s _ _ h2) (r.same s)
theorem OwnAt.notup {T : Tab} {Hh H : Hp} {p : Addr} {d : D} (h : OwnAt T Hh H p d) (xs : List V) : H p ≠ Option.some (HO.tup xs) := fun z => by
  cases h with
  | lst h _ => rw [h] at z; cases z
  | dk h _ => rw [h] at z; cases z
  | dt h _ => rw [h] at z; cases z
  | obj h _ _ => rw [h] at z; cases z
structure Ev (C : Ctx) (ρ : En) (n : Nat) (σ : L2.St) (H : Hp) (O : Ow) : Prop where
  len : ρ.length = σ.length
  val : ∀ (i : Nat) (d : D), ρ[i]? = some (some (Sl.v d)) → ∃ v, σ[i]? = some (some v) ∧ Is C.T (hid C O H) v d
  own : ∀ (i : Nat) (d : D), ρ[i]? = some (some (Sl.own d)) → ∃ p, O i = some p ∧ σ[i]? = some (some (.ref p)) ∧ OwnAt C.T (hid C O H) H p d
  only : ∀ (i : Nat) (p : Addr), O i = some p → (∃ d, ρ[i]? = some (some (Sl.own d))) ∧ C.H0 p = none
  inj : ∀ (i j : Nat) (p : Addr), O i = some p → O j = some p → i = j
  zs : ∀ a, C.Z a → ∃ o, C.H0 a = some o
  zt : ∀ a xs, C.Z a → C.H0 a ≠ some (.tup xs)
  keep : ∀ a o, C.H0 a = some o → C.T.bx ≠ some a → H a = some o
  box : ∀ b, C.T.bx = some b → C.Z b ∧ BoxAt H b n
  slf : ∀ (p : Addr), C.slf = some p → ∀ (i : Nat) (q : Addr) (d : D), O i = some q → ρ[i]? = some (some (Sl.own d)) → isObjD d = true → q = p
  vis : Same C.B (hid C O H)
section
variable {C : Ctx} {ρ : En} {n : Nat} {σ : L2.St} {H H' : Hp} {O : Ow}
theorem hid_some {a : Addr} {o : HO} (h : hid C O H a = some o) : H a = some o ∧ ¬ C.Z a ∧ ∀ i, O i ≠ some a := by
  unfold hid at h
  split at h
  · cases h
  · rename_i q
    exact ⟨h, fun z => q (.inl z), fun i z => q (.inr ⟨i, z⟩)⟩
theorem hid_of {a : Addr} {o : HO} (h : H a = some o) (z : ¬ C.Z a) (q : ∀ i, O i ≠ some a) : hid C O H a = some o := by
  unfold hid
  rw [if_neg]
  · exact h
  · rintro (w | ⟨i, w⟩)
    · exact z w
    · exact q i w
theorem hid_le : Same (hid C O H) H := fun a o h => (hid_some h).1
theorem hid_same (s : Same H H') : Same (hid C O H) (hid C O H') := fun a o h => by
  obtain ⟨h1, h2, h3⟩ := hid_some h
  exact hid_of (s _ _ h1) h2 h3
/-- all but the box is kept -/
def Kb (T : Tab) (H H' : Hp) : Prop := ∀ a o, H a = some o → T.bx ≠ some a → H' a = some o
theorem Kb.of_same {T : Tab} (s : Same H H') : Kb T H H' := fun a o h _ => s a o h
theorem Kb.refl {T : Tab} : Kb T H H := fun a o h _ => h
theorem Kb.trans {T : Tab} {H1 H2 H3 : Hp} (a : Kb T H1 H2) (b : Kb T H2 H3) : Kb T H1 H3 := fun x o h n => b x o (a x o h n) n
theorem Ev.nbx (E : Ev C ρ n σ H O) {i : Nat} {p : Addr} (h : O i = some p) : C.T.bx ≠ some p := fun z => by
  have h1 := (E.only i p h).2
  obtain ⟨o, h2⟩ := E.zs p (E.box p z).1
  rw [h1] at h2
  cases h2
theorem Ev.hidKb (E : Ev C ρ n σ H O) (s : Kb C.T H H') : Same (hid C O H) (hid C O H') := fun a o h => by
  obtain ⟨h1, h2, h3⟩ := hid_some h
  exact hid_of (s _ _ h1 fun z => h2 (E.box a z).1) h2 h3
theorem Ev.extB {n' : Nat} (E : Ev C ρ n σ H O) (s : Kb C.T H H') (hb : ∀ b, C.T.bx = some b → BoxAt H' b n') : Ev C ρ n' σ H' O where
  len := E.len
  val := fun i d e => let ⟨v, h1, h2⟩ := E.val i d e; ⟨v, h1, h2.same (E.hidKb s)⟩
  own := fun i d e => by
    obtain ⟨p, h1, h2, h3⟩ := E.own i d e
    obtain ⟨o, ho⟩ := h3.some
    exact ⟨p, h1, h2, h3.same (E.hidKb s) ((s _ _ ho (E.nbx h1)).trans ho.symm)⟩
  only := E.only
  inj := E.inj
  zs := E.zs
  zt := E.zt
  keep := fun a o h z => s _ _ (E.keep a o h z) z
  box := fun b h => ⟨(E.box b h).1, hb b h⟩
  slf := E.slf
  vis := E.vis.trans (E.hidKb s)
theorem BoxAt.same {b : Addr} (h : BoxAt H b n) (s : Same H H') : BoxAt H' b n := let ⟨A, B, C, e, r⟩ := h; ⟨A, B, C, s _ _ e, r⟩
theorem Ev.ext (E : Ev C ρ n σ H O) (s : Same H H') : Ev C ρ n σ H' O := E.extB (Kb.of_same s) fun b h => (E.box b h).2.same s
/-- a new address is nobody's -/
theorem Ev.fresh (E : Ev C ρ n σ H O) {p : Addr} (h : H p = none) : ¬ C.Z p ∧ (∀ i, O i ≠ some p) ∧ C.H0 p = none ∧ C.T.bx ≠ some p := by
  have h3 : C.T.bx ≠ some p := fun z => by
    obtain ⟨_, A, B, D, e, _⟩ := E.box p z
    rw [h] at e
    cases e
  have h4 : C.H0 p = none := by
    cases q : C.H0 p with
    | none => rfl
    | some o =>
      have := E.keep p o q h3
      rw [h] at this
      cases this
  refine ⟨fun z => ?_, fun i z => ?_, h4, h3⟩
  · obtain ⟨o, e⟩ := E.zs p z
    rw [h4] at e
    cases e
  · obtain ⟨⟨d, e⟩, _⟩ := E.only i p z
    obtain ⟨q, h1, _, h5⟩ := E.own i d e
    rw [z] at h1
    cases h1
    obtain ⟨o, ho⟩ := h5.some
    rw [h] at ho
    cases ho
theorem same_new {p : Addr} {o : HO} (h : H p = none) : Same H (upd H p o) := fun b x e => by
  rw [upd_ne (ne_of_none e h)]
  exact e
theorem Ev.new (E : Ev C ρ n σ H O) {p : Addr} {o : HO} (h : H p = none) : Ev C ρ n σ (upd H p o) O ∧ Same (hid C O H) (hid C O (upd H p o)) ∧ hid C O (upd H p o) p = some o := by
  have s := same_new (o := o) h
  obtain ⟨h1, h2, _⟩ := E.fresh h
  exact ⟨E.ext s, hid_same s, hid_of upd_same h1 h2⟩
/-- the slots of values -/
theorem lt_of_get {α : Type} {l : List α} {i : Nat} {x : α} (e : l[i]? = some x) : i < l.length := (List.getElem?_eq_some_iff.mp e).1
open Classical in
noncomputable def cutO (O : Ow) (i : Nat) : Ow := fun j => if j = i then none else O j
theorem cutO_some {i j : Nat} {p : Addr} (h : cutO O i j = some p) : j ≠ i ∧ O j = some p := by
  unfold cutO at h
  split at h
  · cases h
  · rename_i q
    exact ⟨q, h⟩
theorem hid_cut {i : Nat} : Same (hid C O H) (hid C (cutO O i) H) := fun a o h => by
  obtain ⟨h1, h2, h3⟩ := hid_some h
  exact hid_of h1 h2 fun j z => h3 j (cutO_some z).2
/-- a value is stored -/
theorem Ev.set (E : Ev C ρ n σ H O) {i : Nat} {v : V} {d : D} (hd : Is C.T (hid C O H) v d) : Ev C (ρ.set i (some (Sl.v d))) n (σ.set i (some v)) H (cutO O i) ∧ Same (hid C O H) (hid C (cutO O i) H) := by
  refine ⟨⟨?_, ?_, ?_, ?_, ?_, E.zs, E.zt, E.keep, E.box, fun p hp j q d h1 h2 h3 => (by
    obtain ⟨c, h1⟩ := cutO_some h1
    rw [List.getElem?_set_ne (Ne.symm c)] at h2
    exact E.slf p hp j q d h1 h2 h3), E.vis.trans hid_cut⟩, hid_cut⟩
  · rw [List.length_set, List.length_set, E.len]
  · intro j e h
    by_cases c : j = i
    · subst c
      have hl := lt_of_get h
      rw [List.length_set] at hl
      rw [List.getElem?_set_self hl] at h
      cases h
      rw [List.getElem?_set_self (by rw [← E.len]; exact hl)]
      exact ⟨v, rfl, hd.same hid_cut⟩
    · rw [List.getElem?_set_ne (Ne.symm c)] at h ⊢
      obtain ⟨u, h1, h2⟩ := E.val j e h
      exact ⟨u, h1, h2.same hid_cut⟩
  · intro j e h
    by_cases c : j = i
    · subst c
      have hl := lt_of_get h
      rw [List.length_set] at hl
      rw [List.getElem?_set_self hl] at h
      cases h
    · rw [List.getElem?_set_ne (Ne.symm c)] at h ⊢
      obtain ⟨p, h1, h2, h3⟩ := E.own j e h
      refine ⟨p, ?_, h2, h3.same hid_cut rfl⟩
      unfold cutO
      rw [if_neg c]
      exact h1
  · intro j p h
    obtain ⟨c, h⟩ := cutO_some h
    rw [List.getElem?_set_ne (Ne.symm c)]
    exact E.only j p h
  · intro j k p h1 h2
    exact E.inj j k p (cutO_some h1).2 (cutO_some h2).2
/-- a slot is forgotten -/
theorem Ev.wipe1 (E : Ev C ρ n σ H O) (i : Nat) : Ev C (ρ.set i none) n (σ.set i none) H (cutO O i) := by
  refine ⟨?_, ?_, ?_, ?_, ?_, E.zs, E.zt, E.keep, E.box, fun p hp j q d h1 h2 h3 => (by
    obtain ⟨c, h1⟩ := cutO_some h1
    rw [List.getElem?_set_ne (Ne.symm c)] at h2
    exact E.slf p hp j q d h1 h2 h3), E.vis.trans hid_cut⟩
  · rw [List.length_set, List.length_set, E.len]
  · intro j e h
    by_cases c : j = i
    · subst c
      have hl := lt_of_get h
      rw [List.length_set] at hl
      rw [List.getElem?_set_self hl] at h
      cases h
    · rw [List.getElem?_set_ne (Ne.symm c)] at h ⊢
      obtain ⟨u, h1, h2⟩ := E.val j e h
      exact ⟨u, h1, h2.same hid_cut⟩
  · intro j e h
    by_cases c : j = i
    · subst c
      have hl := lt_of_get h
      rw [List.length_set] at hl
      rw [List.getElem?_set_self hl] at h
      cases h
    · rw [List.getElem?_set_ne (Ne.symm c)] at h ⊢
      obtain ⟨p, h1, h2, h3⟩ := E.own j e h
      refine ⟨p, ?_, h2, h3.same hid_cut rfl⟩
      unfold cutO
      rw [if_neg c]
      exact h1
  · intro j p h
    obtain ⟨c, h⟩ := cutO_some h
    rw [List.getElem?_set_ne (Ne.symm c)]
    exact E.only j p h
  · intro j k p h1 h2
    exact E.inj j k p (cutO_some h1).2 (cutO_some h2).2
open Classical in
noncomputable def putO (O : Ow) (i : Nat) (p : Addr) : Ow := fun j => if j = i then some p else O j
theorem putO_some {i j : Nat} {p q : Addr} (h : putO O i p j = some q) : (j = i ∧ q = p) ∨ (j ≠ i ∧ O j = some q) := by
  unfold putO at h
  split at h
  · rename_i c
    exact .inl ⟨c, (Option.some.inj h).symm⟩
  · rename_i c
    exact .inr ⟨c, h⟩
theorem fresh_hid (E : Ev C ρ n σ H O) {p : Addr} {i : Nat} (h : H p = none) (s : Same H H') : Same (hid C O H) (hid C (putO O i p) H') := fun a o e => by
  obtain ⟨h1, h2, h3⟩ := hid_some e
  refine hid_of (s _ _ h1) h2 fun j z => ?_
  rcases putO_some z with ⟨_, e⟩ | ⟨_, e⟩
  · rw [e, h] at h1
    cases h1
  · exact h3 j e
/-- a new thing that this slot alone knows -/
theorem Ev.setOwn (E : Ev C ρ n σ H O) {i : Nat} {p : Addr} {d : D} (hi : i < ρ.length) (hn : H p = none) (s : Same H H') (hd : OwnAt C.T (hid C O H) H' p d) (no : isObjD d = false) :
    Ev C (ρ.set i (some (Sl.own d))) n (σ.set i (some (.ref p))) H' (putO O i p) ∧ Same (hid C O H) (hid C (putO O i p) H') := by
  have S := fresh_hid (i := i) E hn s
  obtain ⟨f1, f2, f3, f4⟩ := E.fresh hn
  refine ⟨⟨?_, ?_, ?_, ?_, ?_, E.zs, E.zt, fun a o h z => s _ _ (E.keep a o h z), fun b h => ⟨(E.box b h).1, (E.box b h).2.same s⟩, fun p' hp j q d' h1 h2 h3 => ?_, E.vis.trans S⟩, S⟩
  · rw [List.length_set, List.length_set, E.len]
  · intro j e h
    by_cases c : j = i
    · subst c
      rw [List.getElem?_set_self hi] at h
      cases h
    · rw [List.getElem?_set_ne (Ne.symm c)] at h ⊢
      obtain ⟨u, h1, h2⟩ := E.val j e h
      exact ⟨u, h1, h2.same S⟩
  · intro j e h
    by_cases c : j = i
    · subst c
      rw [List.getElem?_set_self hi] at h
      cases h
      rw [List.getElem?_set_self (by rw [← E.len]; exact hi)]
      refine ⟨p, ?_, rfl, hd.same S rfl⟩
      unfold putO
      rw [if_pos rfl]
    · rw [List.getElem?_set_ne (Ne.symm c)] at h ⊢
      obtain ⟨q, h1, h2, h3⟩ := E.own j e h
      obtain ⟨o, ho⟩ := h3.some
      refine ⟨q, ?_, h2, h3.same S ((s _ _ ho).trans ho.symm)⟩
      unfold putO
      rw [if_neg c]
      exact h1
  · intro j q h
    rcases putO_some h with ⟨rfl, rfl⟩ | ⟨c, h⟩
    · rw [List.getElem?_set_self hi]
      exact ⟨⟨d, rfl⟩, f3⟩
    · rw [List.getElem?_set_ne (Ne.symm c)]
      exact E.only j q h
  · intro j k q h1 h2
    rcases putO_some h1 with ⟨a1, a2⟩ | ⟨c, a1⟩
    · rcases putO_some h2 with ⟨b1, _⟩ | ⟨_, b1⟩
      · rw [a1, b1]
      · exact absurd (a2 ▸ b1) (f2 k)
    · rcases putO_some h2 with ⟨_, b2⟩ | ⟨_, b1⟩
      · exact absurd (b2 ▸ a1) (f2 j)
      · exact E.inj j k q a1 b1
  · rcases putO_some h1 with ⟨rfl, rfl⟩ | ⟨c, h1⟩
    · rw [List.getElem?_set_self hi] at h2
      cases h2
      rw [no] at h3
      cases h3
    · rw [List.getElem?_set_ne (Ne.symm c)] at h2
      exact E.slf p' hp j q d' h1 h2 h3
/-- the thing of an own slot changes -/
theorem Ev.chg (E : Ev C ρ n σ H O) {i : Nat} {p : Addr} {d : D} {o : HO} (hi : i < ρ.length) (hO : O i = some p) (hd : OwnAt C.T (hid C O H) (upd H p o) p d) (ho : isObjD d = true → ∃ d0, ρ[i]? = some (some (Sl.own d0)) ∧ isObjD d0 = true := by exact fun h => nomatch h) :
    Ev C (ρ.set i (some (Sl.own d))) n σ (upd H p o) O ∧ Same (hid C O H) (hid C O (upd H p o)) := by
  have S : Same (hid C O H) (hid C O (upd H p o)) := fun a u e => by
    obtain ⟨h1, h2, h3⟩ := hid_some e
    refine hid_of ?_ h2 h3
    rw [upd_ne fun z => h3 i (by rw [z]; exact hO)]
    exact h1
  have hs : σ[i]? = some (some (.ref p)) := by
    obtain ⟨d', e⟩ := (E.only i p hO).1
    obtain ⟨q, h1, h2, _⟩ := E.own i d' e
    rw [hO] at h1
    cases h1
    exact h2
  refine ⟨⟨?_, ?_, ?_, ?_, E.inj, E.zs, E.zt, fun a u h z => ?_, fun b h => ⟨(E.box b h).1, ?_⟩, fun p' hp j q d' h1 h2 h3 => ?_, E.vis.trans S⟩, S⟩
  · rw [List.length_set, E.len]
  · intro j e h
    by_cases c : j = i
    · subst c
      rw [List.getElem?_set_self hi] at h
      cases h
    · rw [List.getElem?_set_ne (Ne.symm c)] at h
      obtain ⟨u, h1, h2⟩ := E.val j e h
      exact ⟨u, h1, h2.same S⟩
  · intro j e h
    by_cases c : j = i
    · subst c
      rw [List.getElem?_set_self hi] at h
      cases h
      exact ⟨p, hO, hs, hd.same S rfl⟩
    · rw [List.getElem?_set_ne (Ne.symm c)] at h
      obtain ⟨q, h1, h2, h3⟩ := E.own j e h
      refine ⟨q, h1, h2, h3.same S (upd_ne fun z => c (E.inj j i p (z ▸ h1) hO))⟩
  · intro j q h
    by_cases c : j = i
    · subst c
      rw [List.getElem?_set_self hi]
      exact ⟨⟨d, rfl⟩, (E.only j q h).2⟩
    · rw [List.getElem?_set_ne (Ne.symm c)]
      exact E.only j q h
  · rw [upd_ne fun q => ?_]
    · exact E.keep a u h z
    · rw [q, (E.only i p hO).2] at h
      cases h
  · obtain ⟨A, B, D, e, r⟩ := (E.box b h).2
    refine ⟨A, B, D, ?_, r⟩
    rw [upd_ne fun z => E.nbx hO (h.trans (congrArg some z))]
    exact e
  · by_cases c : j = i
    · subst c
      rw [List.getElem?_set_self hi] at h2
      cases h2
      obtain ⟨d0, e0, e1⟩ := ho h3
      exact E.slf p' hp j q d0 h1 e0 e1
    · rw [List.getElem?_set_ne (Ne.symm c)] at h2
      exact E.slf p' hp j q d' h1 h2 h3
/-- an own slot becomes a value: its list -/
theorem Ev.frz (E : Ev C ρ n σ H O) {i : Nat} {v : V} {d : D} (hi : i < ρ.length) (hs : σ[i]? = some (some v)) (hd : Is C.T (hid C (cutO O i) H) v d) : Ev C (ρ.set i (some (Sl.v d))) n σ H (cutO O i) := by
  refine ⟨?_, ?_, ?_, ?_, ?_, E.zs, E.zt, E.keep, E.box, fun p hp j q d h1 h2 h3 => (by
    obtain ⟨c, h1⟩ := cutO_some h1
    rw [List.getElem?_set_ne (Ne.symm c)] at h2
    exact E.slf p hp j q d h1 h2 h3), E.vis.trans hid_cut⟩
  · rw [List.length_set, E.len]
  · intro j e h
    by_cases c : j = i
    · subst c
      rw [List.getElem?_set_self hi] at h
      cases h
      exact ⟨v, hs, hd⟩
    · rw [List.getElem?_set_ne (Ne.symm c)] at h
      obtain ⟨u, h1, h2⟩ := E.val j e h
      exact ⟨u, h1, h2.same hid_cut⟩
  · intro j e h
    by_cases c : j = i
    · subst c
      rw [List.getElem?_set_self hi] at h
      cases h
    · rw [List.getElem?_set_ne (Ne.symm c)] at h
      obtain ⟨p, h1, h2, h3⟩ := E.own j e h
      refine ⟨p, ?_, h2, h3.same hid_cut rfl⟩
      unfold cutO
      rw [if_neg c]
      exact h1
  · intro j p h
    obtain ⟨c, h⟩ := cutO_some h
    rw [List.getElem?_set_ne (Ne.symm c)]
    exact E.only j p h
  · intro j k p h1 h2
    exact E.inj j k p (cutO_some h1).2 (cutO_some h2).2
/-- a tuple is hidden from nobody -/
theorem Ev.tup (E : Ev C ρ n σ H O) {a : Addr} {xs : List V} (h : H a = some (.tup xs)) : hid C O H a = some (.tup xs) := by
  refine hid_of h (fun z => ?_) fun i z => ?_
  · by_cases c : C.T.bx = some a
    · obtain ⟨A, B, F, e, _⟩ := (E.box a c).2
      rw [h] at e
      cases e
    · obtain ⟨o, ho⟩ := E.zs a z
      have := E.keep a o ho c
      rw [h] at this
      cases this
      exact E.zt a xs z ho
  · obtain ⟨⟨d, e⟩, _⟩ := E.only i a z
    obtain ⟨p, h1, _, h3⟩ := E.own i d e
    rw [z] at h1
    cases h1
    exact h3.notup xs h
end
end RM
namespace RM
open PySem PySem.Spec PyProof.Rows L2 CS RZ
/-! ### readings over data -/
abbrev Xv := Nat × List (D × D)
abbrev KE := Xv → En → Nat → Prop
abbrev CE := En → Nat → (D → En → Nat → Prop) → KE → Prop
abbrev CA := En → Nat → (List D → En → Nat → Prop) → KE → Prop
abbrev CT := En → Nat → (Bool → En → Nat → Prop) → KE → Prop
def XIs (T : Tab) (Hh : Hp) (dd : Option Addr) (fs : List (D × D)) : Prop := (dd = none ∧ fs = []) ∨ ∃ a us, dd = some a ∧ Hh a = some (.xd us) ∧ IsF T Hh us fs
theorem XIs.same {T : Tab} {H H' : Hp} {dd : Option Addr} {fs : List (D × D)} (h : XIs T H dd fs) (s : Same H H') : XIs T H' dd fs := by
  rcases h with h | ⟨a, us, e, h1, h2⟩
  · exact .inl h
  · exact .inr ⟨a, us, e, s _ _ h1, h2.same s⟩
def XL (C : Ctx) (xk : WX) (ke : KE) : Prop := ∀ (c : Nat) (fs : List (D × D)) (ρ : En) (n : Nat) (σ : L2.St) (H : Hp) (O : Ow) (dd : Option Addr), ke (c, fs) ρ n → Ev C ρ n σ H O → XIs C.T (hid C O H) dd fs → xk (.ref (C.T.cls c)) dd σ H
/-- the written part and the classes by number -/
structure Glob where
  K : PySem.W.Frag
  cls : Nat → Addr
def Ctx.On (C : Ctx) (g : Glob) : Prop := C.T.K = g.K ∧ C.T.cls = g.cls
def xF : WX := fun _ _ _ _ => False
def lift (g : Glob) (xk : WX) (td : CE) : TE := fun σ H Q => ∃ (C : Ctx) (ρ : En) (n : Nat) (O : Ow) (k : D → En → Nat → Prop) (ke : KE), C.On g ∧ Ev C ρ n σ H O ∧ td ρ n k ke ∧ XL C xk ke ∧
  ∀ (d : D) (ρ' : En) (n' : Nat) (v : V) (H' : Hp) (O' : Ow), k d ρ' n' → Ev C ρ' n' σ H' O' → Same (hid C O H) (hid C O' H') → Is C.T (hid C O' H') v d → Q v H'
def liftT (g : Glob) (xk : WX) (td : CT) : TT := fun σ H Q => ∃ (C : Ctx) (ρ : En) (n : Nat) (O : Ow) (k : Bool → En → Nat → Prop) (ke : KE), C.On g ∧ Ev C ρ n σ H O ∧ td ρ n k ke ∧ XL C xk ke ∧
  ∀ (b : Bool) (ρ' : En) (n' : Nat) (H' : Hp) (O' : Ow), k b ρ' n' → Ev C ρ' n' σ H' O' → Same (hid C O H) (hid C O' H') → Q b H'
def liftA (g : Glob) (xk : WX) (td : CA) : TA := fun σ H Q => ∃ (C : Ctx) (ρ : En) (n : Nat) (O : Ow) (k : List D → En → Nat → Prop) (ke : KE), C.On g ∧ Ev C ρ n σ H O ∧ td ρ n k ke ∧ XL C xk ke ∧
  ∀ (ds : List D) (ρ' : En) (n' : Nat) (vs : List V) (H' : Hp) (O' : Ow), k ds ρ' n' → Ev C ρ' n' σ H' O' → Same (hid C O H) (hid C O' H') → IsL C.T (hid C O' H') vs ds → Q vs H'
/-- a new thing at p, of which nobody else knows -/
def liftF (g : Glob) (xk : WX) (td : CE) : TE := fun σ H Q => ∃ (C : Ctx) (ρ : En) (n : Nat) (O : Ow) (k : D → En → Nat → Prop) (ke : KE), C.On g ∧ Ev C ρ n σ H O ∧ td ρ n k ke ∧ XL C xk ke ∧
  ∀ (d : D) (ρ' : En) (n' : Nat) (p : Addr) (H1 H' : Hp) (O' : Ow), k d ρ' n' → Ev C ρ' n' σ H1 O' → Same (hid C O H) (hid C O' H1) → H1 p = none → Same H1 H' → OwnAt C.T (hid C O' H1) H' p d → isObjD d = false → Q (.ref p) H'
structure Good (X : Cx) (g : Glob) : Prop where
  K : g.K = X.K
structure PD (X : Cx) (g : Glob) (xk : WX) (e : Expr) (td : CE) : Prop where
  pe : PE X e (lift g xk td)
structure PDT (X : Cx) (g : Glob) (xk : WX) (e : Expr) (td : CT) : Prop where
  pt : PT X e (liftT g xk td)
structure PDA (X : Cx) (g : Glob) (xk : WX) (es : List Expr) (td : CA) : Prop where
  pa : PA X es (liftA g xk td)
structure PDF (X : Cx) (g : Glob) (xk : WX) (e : Expr) (td : CE) : Prop where
  pe : PE X e (liftF g xk td)
theorem PE.imp {X : Cx} {e : Expr} {t t' : TE} (h : PE X e t) (q : ∀ σ H Q, t' σ H Q → t σ H Q) : PE X e t' := ⟨fun pins s σ H Q I r => h.run pins s σ H Q I (q _ _ _ r)⟩
theorem PT.imp {X : Cx} {e : Expr} {t t' : TT} (h : PT X e t) (q : ∀ σ H Q, t' σ H Q → t σ H Q) : PT X e t' := ⟨fun pins s σ H Q I r => h.run pins s σ H Q I (q _ _ _ r)⟩
theorem PA.imp {X : Cx} {e : List Expr} {t t' : TA} (h : PA X e t) (q : ∀ σ H Q, t' σ H Q → t σ H Q) : PA X e t' := ⟨fun pos pins s σ H Q I r => h.run pos pins s σ H Q I (q _ _ _ r)⟩
theorem Dp.len {K : PySem.W.Frag} {H : Hp} : True := trivial
def lim : Nat := 10000000
theorem lim_le {n : Nat} (h : n ≤ lim) : n ≤ sizeLine := Nat.le_trans h (by decide)
theorem lim_lt {n : Nat} (h : n < lim) : n < sizeLine := Nat.lt_of_lt_of_le h (by decide)
section
variable {X : Cx} {g : Glob} {C : Ctx} {xk : WX} {pos : Pos}
/-! ### names -/
def cVar (i : Nat) : CE := fun ρ n k _ => match ρ[i]? with
  | some (some (Sl.v d)) => k d ρ n
  | some (some (Sl.own d)) => k d (ρ.set i (some (Sl.v d))) n
  | _ => False
theorem same_at {ρ : En} {n : Nat} {σ : L2.St} {H : Hp} {O : Ow} {i : Nat} {p : Addr} {u : HO} (E : Ev C ρ n σ H O) (hO : O i = some p) : Same (hid C O H) (hid C O (upd H p u)) := fun a o w => by
  obtain ⟨w1, w2, w3⟩ := hid_some w
  have ne : a ≠ p := fun z => w3 i (z ▸ hO)
  refine hid_of ?_ w2 w3
  rw [upd_ne ne]
  exact w1
theorem melt2 {ρ : En} {n : Nat} {σ : L2.St} {H : Hp} {O : Ow} {i : Nat} {p : Addr} {d d0 : D} {u : HO} (E : Ev C ρ n σ H O) (e : ρ[i]? = some (some (Sl.own d0))) (hO : O i = some p) (hs : σ[i]? = some (some (.ref p))) (is : Is C.T (hid C (cutO O i) (upd H p u)) (.ref p) d) :
    Ev C (ρ.set i (some (Sl.v d))) n σ (upd H p u) (cutO O i) ∧ Same (hid C O H) (hid C (cutO O i) (upd H p u)) := by
  have hi := lt_of_get e
  have S1 := same_at (u := u) E hO
  refine ⟨⟨?_, ?_, ?_, ?_, ?_, E.zs, E.zt, ?_, ?_, fun p hp j q d h1 h2 h3 => (by
    obtain ⟨c, h1⟩ := cutO_some h1
    rw [List.getElem?_set_ne (Ne.symm c)] at h2
    exact E.slf p hp j q d h1 h2 h3), E.vis.trans (S1.trans hid_cut)⟩, S1.trans hid_cut⟩
  · rw [List.length_set, E.len]
  · intro j d' h
    by_cases c : j = i
    · subst c
      rw [List.getElem?_set_self hi] at h
      cases h
      exact ⟨_, hs, is⟩
    · rw [List.getElem?_set_ne (Ne.symm c)] at h
      obtain ⟨v, a1, a2⟩ := E.val j d' h
      exact ⟨v, a1, (a2.same S1).same hid_cut⟩
  · intro j d' h
    by_cases c : j = i
    · subst c
      rw [List.getElem?_set_self hi] at h
      cases h
    · rw [List.getElem?_set_ne (Ne.symm c)] at h
      obtain ⟨q, a1, a2, a3⟩ := E.own j d' h
      have ne : q ≠ p := fun z => c (E.inj j i p (z ▸ a1) hO)
      refine ⟨q, ?_, a2, (a3.same S1 (upd_ne ne)).same hid_cut rfl⟩
      unfold cutO
      rw [if_neg c]
      exact a1
  · intro j q h
    obtain ⟨c, h⟩ := cutO_some h
    rw [List.getElem?_set_ne (Ne.symm c)]
    exact E.only j q h
  · intro j k q h1 h2
    exact E.inj j k q (cutO_some h1).2 (cutO_some h2).2
  · intro a o h z
    have ne : a ≠ p := fun q => by
      rw [q, (E.only i p hO).2] at h
      cases h
    rw [upd_ne ne]
    exact E.keep a o h z
  · intro b h
    obtain ⟨A, B, F, e', r'⟩ := (E.box b h).2
    have ne : b ≠ p := fun q => E.nbx hO (h.trans (congrArg some q))
    exact ⟨(E.box b h).1, A, B, F, by rw [upd_ne ne]; exact e', r'⟩
/-- what was a frame's own turns into a value: dicts are locked -/
theorem melt {pins : List (Addr × Obj)} {ρ : En} {n : Nat} {σ : L2.St} {H : Hp} {O : Ow} {s : Shared} {i : Nat} {p : Addr} {d : D} (E : Ev C ρ n σ H O) (I : Inv X pins σ H s) (e : ρ[i]? = some (some (Sl.own d))) (hO : O i = some p) :
    ∃ H', Inv X pins σ H' s ∧ Ev C (ρ.set i (some (Sl.v d))) n σ H' (cutO O i) ∧ Same (hid C O H) (hid C (cutO O i) H') ∧ Is C.T (hid C (cutO O i) H') (.ref p) d ∧ σ[i]? = some (some (.ref p)) := by
  obtain ⟨q, h1, h2, h3⟩ := E.own i d e
  rw [hO] at h1
  cases h1
  have hi := lt_of_get e
  have pz : ¬ C.Z p := fun z => by
    obtain ⟨o, u⟩ := E.zs p z
    rw [(E.only i p hO).2] at u
    cases u
  have pn : ∀ j, cutO O i j ≠ some p := fun j z => by
    obtain ⟨c, z⟩ := cutO_some z
    exact c (E.inj j i p z hO)
  cases h3 with
  | lst g r =>
    have is : Is C.T (hid C (cutO O i) H) (.ref p) (.list _) := .lst (hid_of g pz pn) (r.same hid_cut)
    exact ⟨H, I, E.frz hi h2 is, hid_cut, is, h2⟩
  | @obj dx c us fs g g2 r =>
    have is : Is C.T (hid C (cutO O i) H) (.ref p) (.dict ((.none, .int (c : Nat)) :: fs)) := .obj (hid_of g pz pn) (hid_cut _ _ g2) (r.same hid_cut)
    exact ⟨H, I, E.frz hi h2 is, hid_cut, is, h2⟩
  | @dk kvs ks g r =>
    obtain ⟨od, J⟩ := I.lock g trivial
    have is : Is C.T (hid C (cutO O i) (upd H p (.frz od (.dK kvs)))) (.ref p) (.dict ((.none, .bool false) :: ks)) := .dk (.inr ⟨od, hid_of upd_same pz pn⟩) ((r.same (same_at E hO)).same hid_cut)
    obtain ⟨a, b⟩ := melt2 E e hO h2 is
    exact ⟨_, J, a, b, is, h2⟩
  | @dt kvs ks g r =>
    obtain ⟨od, J⟩ := I.lock g trivial
    have is : Is C.T (hid C (cutO O i) (upd H p (.frz od (.dT kvs)))) (.ref p) (.dict ((.none, .bool true) :: ks)) := .dt (.inr ⟨od, hid_of upd_same pz pn⟩) ((r.same (same_at E hO)).same hid_cut)
    obtain ⟨a, b⟩ := melt2 E e hO h2 is
    exact ⟨_, J, a, b, is, h2⟩
theorem pd_var (i : Nat) {x : Str} (hN : X.N[i]? = some x := by rfl) (hv : Vis X.env.scope x := by first | exact Or.inl rfl | exact Or.inr (Or.inl rfl) | exact Or.inr (Or.inr rfl)) (hd : (x == ("__debug__" : Str)) = false := by decide)
    (hcd : (x == ("__classdict__" : Str)) = false := by decide) : PD X g xk (.Name x pos) (cVar i) := by
  refine ⟨⟨fun pins s σ H Q I h => ?_⟩⟩
  obtain ⟨C, ρ, n, O, k, ke, hK, E, t, _, q⟩ := h
  unfold cVar at t
  split at t
  · rename_i d e
    obtain ⟨v, h1, h2⟩ := E.val i d e
    exact (pe_var hN hv hd hcd).run pins s σ H Q I ⟨v, h1, q _ _ _ _ _ _ t E (Same.refl _) h2⟩
  · rename_i d e
    obtain ⟨p, h1, _⟩ := E.own i d e
    obtain ⟨H', J, E', S, is, hs⟩ := melt E I e h1
    exact (pe_var hN hv hd hcd).run pins s σ H' Q J ⟨_, hs, q _ _ _ _ _ _ t E' S is⟩
  · exact t.elim
/-! ### constants -/
def cC (d : D) : CE := fun ρ n k _ => k d ρ n
theorem pd_c {e : Expr} {v : V} {d : D} (h : PE X e (tC v)) (hd : ∀ T H, Is T H v d) : PD X g xk e (cC d) := ⟨PE.imp h fun σ H Q ⟨C, ρ, n, O, k, ke, hK, E, t, _, q⟩ => q _ _ _ _ _ _ t E (Same.refl _) (hd _ _)⟩
theorem pd_int {i : Int} {j} : PD X g xk (.Constant (.int i) j pos) (cC (.int i)) := pd_c pe_int fun _ _ => .int i
theorem pd_str {i : Str} {j} : PD X g xk (.Constant (.str i) j pos) (cC (.str i)) := pd_c pe_str fun _ _ => .str i
theorem pd_bl {i : Bool} {j} : PD X g xk (.Constant (.bool i) j pos) (cC (.bool i)) := pd_c pe_bl fun _ _ => .bl i
theorem pd_non {j} : PD X g xk (.Constant .none j pos) (cC .none) := pd_c pe_non fun _ _ => .non
/-! ### lists of expressions, displays -/
def cNil : CA := fun ρ n k _ => k [] ρ n
def cCons (t : CE) (u : CA) : CA := fun ρ n k ke => t ρ n (fun d ρ1 n1 => u ρ1 n1 (fun ds ρ2 n2 => k (d :: ds) ρ2 n2) ke) ke
theorem pda_nil : PDA X g xk [] cNil := ⟨PA.imp pa_nil fun σ H Q ⟨C, ρ, n, O, k, ke, hK, E, t, _, q⟩ => q _ _ _ _ _ _ t E (Same.refl _) .nil⟩
theorem pda_cons {e : Expr} {es : List Expr} {t : CE} {u : CA} (ha : PD X g xk e t) (hr : PDA X g xk es u) (hs : starEach (e :: es) X.env = (false, eval e X.env) :: starEach es X.env := by rfl) : PDA X g xk (e :: es) (cCons t u) :=
  ⟨PA.imp (pa_cons ha.pe hr.pa hs) fun σ H Q ⟨C, ρ, n, O, k, ke, hK, E, t, x, q⟩ => ⟨C, ρ, n, O, _, ke, hK, E, t, x, fun d ρ1 n1 v H1 O1 k1 E1 S1 i1 => ⟨C, ρ1, n1, O1, _, ke, hK, E1, k1, x, fun ds ρ2 n2 vs H2 O2 k2 E2 S2 i2 =>
    q _ _ _ _ _ _ k2 E2 (S1.trans S2) (.cons (i1.same S2) i2)⟩⟩⟩
def cTup (ta : CA) : CE := fun ρ n k ke => ta ρ n (fun ds ρ' n' => ds.length ≤ lim ∧ k (.tuple ds) ρ' n') ke
def cLst (ta : CA) : CE := fun ρ n k ke => ta ρ n (fun ds ρ' n' => ds.length ≤ lim ∧ k (.list ds) ρ' n') ke
theorem pd_tup {es : List Expr} {ta : CA} {x1} (h : PDA X g xk es ta) : PD X g xk (.Tuple es x1 pos) (cTup ta) :=
  ⟨PE.imp (pe_tup h.pa) fun σ H Q ⟨C, ρ, n, O, k, ke, hK, E, t, x, q⟩ => ⟨C, ρ, n, O, _, ke, hK, E, t, x, fun ds ρ1 n1 vs H1 O1 k1 E1 S1 i1 => ⟨by rw [i1.length]; exact lim_le k1.1, fun p hp => by
    obtain ⟨a, b, c⟩ := E1.new (o := .tup vs) hp
    exact q _ _ _ _ _ _ k1.2 a (S1.trans b) (.tup (.inl (.inl c)) (i1.same b))⟩⟩⟩
theorem pf_lst {es : List Expr} {ta : CA} (h : PDA X g xk es ta) : PDF X g xk (.List es pos) (cLst ta) :=
  ⟨PE.imp (pe_lst h.pa) fun σ H Q ⟨C, ρ, n, O, k, ke, hK, E, t, x, q⟩ => ⟨C, ρ, n, O, _, ke, hK, E, t, x, fun ds ρ1 n1 vs H1 O1 k1 E1 S1 i1 => ⟨by rw [i1.length]; exact lim_le k1.1, fun p hp =>
    q _ _ _ _ _ _ _ k1.2 E1 S1 hp (same_new hp) (.lst upd_same i1) rfl⟩⟩⟩
/-- a new thing used as a value -/
theorem PDF.pd {e : Expr} {td : CE} (h : PDF X g xk e td) (nd : True := trivial) : PD X g xk e td := by
  refine ⟨⟨fun pins s σ H Q I r => ?_⟩⟩
  obtain ⟨C, ρ, n, O, k, ke, hK, E, t, x, q⟩ := r
  refine thn (h.pe.run pins s σ H (fun v H' => ∃ (d : D) (ρ' : En) (n' : Nat) (p : Addr) (H1 : Hp) (O' : Ow), v = .ref p ∧ k d ρ' n' ∧ Ev C ρ' n' σ H1 O' ∧ Same (hid C O H) (hid C O' H1) ∧ H1 p = none ∧ Same H1 H' ∧ OwnAt C.T (hid C O' H1) H' p d) I
    ⟨C, ρ, n, O, k, ke, hK, E, t, x, fun d ρ' n' p H1 H' O' a b c d' e f _ => ⟨d, ρ', n', p, H1, O', rfl, a, b, c, d', e, f⟩⟩) fun u s' ⟨v, H', J, rv, d, ρ', n', p, H1, O', ev, kk, E', S, hn, s1, ow⟩ => ?_
  subst ev
  obtain ⟨f1, f2, _, _⟩ := E'.fresh hn
  cases ow with
  | lst g r => exact ⟨_, _, J, rv, q _ _ _ _ _ _ kk (E'.ext s1) (S.trans (hid_same s1)) (.lst (hid_of g f1 f2) (r.same (hid_same s1)))⟩
  | obj g g2 r => exact ⟨_, _, J, rv, q _ _ _ _ _ _ kk (E'.ext s1) (S.trans (hid_same s1)) (.obj (hid_of g f1 f2) (hid_same s1 _ _ g2) (r.same (hid_same s1)))⟩
  | @dk kvs ks g r =>
    obtain ⟨od, J2⟩ := J.lock g trivial
    have s2 : Same H1 (upd H' p (.frz od (.dK kvs))) := fun b o w => by
      rw [upd_ne (ne_of_none w hn)]
      exact s1 _ _ w
    exact ⟨_, _, J2, rv, q _ _ _ _ _ _ kk (E'.ext s2) (S.trans (hid_same s2)) (.dk (.inr ⟨od, hid_of upd_same f1 f2⟩) (r.same (hid_same s2)))⟩
  | @dt kvs ks g r =>
    obtain ⟨od, J2⟩ := J.lock g trivial
    have s2 : Same H1 (upd H' p (.frz od (.dT kvs))) := fun b o w => by
      rw [upd_ne (ne_of_none w hn)]
      exact s1 _ _ w
    exact ⟨_, _, J2, rv, q _ _ _ _ _ _ kk (E'.ext s2) (S.trans (hid_same s2)) (.dt (.inr ⟨od, hid_of upd_same f1 f2⟩) (r.same (hid_same s2)))⟩
/-! ### operators -/
/-- the result's own objects are new -/
def NewQ (T : Tab) (Hh H : Hp) (z : D) (Q : VK) : Prop := ∀ (v : V) (H' : Hp), Same H H' → (∀ Hx, Same Hh Hx → (∀ a o, H' a = some o → H a = none → Hx a = some o) → Is T Hx v z) → Q v H'
theorem NewQ.flat {T : Tab} {Hh H : Hp} {z : D} {Q : VK} {v : V} (h : NewQ T Hh H z Q) (i : ∀ Hx, Is T Hx v z) : Q v H := h v H (Same.refl _) fun Hx _ _ => i Hx
def OpD (X : Cx) (f : Value → Value → Sem Value) (g : D → D → Option D) : Prop := ∃ r, OpR X f r ∧ ∀ (T : Tab) (Hh H : Hp) (x y : V) (dx dy z : D) (Q : VK), T.K = X.K → Same Hh H → Is T Hh x dx → Is T Hh y dy → g dx dy = some z → NewQ T Hh H z Q → r x y H Q
def cOp (g : D → D → Option D) (ta tb : CE) : CE := fun ρ n k ke => ta ρ n (fun x ρ1 n1 => tb ρ1 n1 (fun y ρ2 n2 => ∃ z, g x y = some z ∧ k z ρ2 n2) ke) ke
theorem newq {ρ : En} {n : Nat} {σ : L2.St} {H : Hp} {O : Ow} {z : D} {Q : VK} (E : Ev C ρ n σ H O) (h : ∀ (v : V) (H' : Hp), Ev C ρ n σ H' O → Same (hid C O H) (hid C O H') → Is C.T (hid C O H') v z → Q v H') : NewQ C.T (hid C O H) H z Q := fun v H' s i =>
  h v H' (E.ext s) (hid_same s) (i _ (hid_same s) fun a o e1 e2 => let ⟨f1, f2, _, _⟩ := E.fresh e2; hid_of e1 f1 f2)
theorem op_use {f : Value → Value → Sem Value} {u : D → D → Option D} {ta tb : CE} {r : R2} (G : Good X g) (hg : ∀ (T : Tab) (Hh H : Hp) (x y : V) (dx dy z : D) (Q : VK), T.K = X.K → Same Hh H → Is T Hh x dx → Is T Hh y dy → u dx dy = some z → NewQ T Hh H z Q → r x y H Q)
    {σ : L2.St} {H : Hp} {Q : VK} (h : lift g xk (cOp u ta tb) σ H Q) : tOp r (lift g xk ta) (lift g xk tb) σ H Q := by
  obtain ⟨C, ρ, n, O, k, ke, hK, E, t, x, q⟩ := h
  refine ⟨C, ρ, n, O, _, ke, hK, E, t, x, fun d ρ1 n1 v H1 O1 k1 E1 S1 i1 => ⟨C, ρ1, n1, O1, _, ke, hK, E1, k1, x, fun d2 ρ2 n2 v2 H2 O2 k2 E2 S2 i2 => ?_⟩⟩
  obtain ⟨z, hz, k2⟩ := k2
  exact hg C.T (hid C O2 H2) H2 v v2 d d2 z Q (hK.1.trans G.K) hid_le (i1.same S2) i2 hz (newq E2 fun v3 H3 E3 S3 i3 => q _ _ _ _ _ _ k2 E3 ((S1.trans S2).trans S3) i3)
theorem pd_op {op : Operator} {u : D → D → Option D} {a b : Expr} {ta tb : CE} (ho : OpD X (binaryOp op) u) (G : Good X g) (ha : PD X g xk a ta) (hb : PD X g xk b tb) : PD X g xk (.BinOp a op b pos) (cOp u ta tb) := by
  obtain ⟨r, hr, hg⟩ := ho
  exact ⟨PE.imp (pe_op hr ha.pe hb.pe) fun σ H Q h => op_use (f := binaryOp op) G hg h⟩
theorem pd_cmp {op : CmpOp} {u : D → D → Option D} {a b : Expr} {ta tb : CE} (ho : OpD X (compareOp op) u) (G : Good X g) (ha : PD X g xk a ta) (hb : PD X g xk b tb) (hm : behindInMarks op b = false) : PD X g xk (.Compare a [op] [b] pos) (cOp u ta tb) := by
  obtain ⟨r, hr, hg⟩ := ho
  exact ⟨PE.imp (pe_cmpR hr ha.pe hb.pe hm) fun σ H Q h => op_use (f := compareOp op) G hg h⟩
/-! ### tests -/
/-- the truth of a value -/
def cB (t : CE) : CT := fun ρ n k ke => t ρ n (fun d ρ' n' => ∃ b, d = .bool b ∧ k b ρ' n') ke
theorem isBl {T : Tab} {H : Hp} {v : V} {b : Bool} (h : Is T H v (.bool b)) : v = .bl b := by
  cases h
  rfl
theorem pdt_cmp {op : CmpOp} {u : D → D → Option D} {a b : Expr} {ta tb : CE} (ho : OpD X (compareOp op) u) (G : Good X g) (ha : PD X g xk a ta) (hb : PD X g xk b tb) (hm : behindInMarks op b = false) : PDT X g xk (.Compare a [op] [b] pos) (cB (cOp u ta tb)) := by
  obtain ⟨r, hr, hg⟩ := ho
  refine ⟨PT.imp (pt_cmpR hr ha.pe hb.pe hm) fun σ H Q h => ?_⟩
  obtain ⟨C, ρ, n, O, k, ke, hK, E, t, x, q⟩ := h
  refine op_use (f := compareOp op) G hg ⟨C, ρ, n, O, _, ke, hK, E, t, x, fun d ρ1 n1 v H1 O1 k1 E1 S1 i1 => ?_⟩
  obtain ⟨b, rfl, k1⟩ := k1
  exact ⟨b, isBl i1, q _ _ _ _ _ k1 E1 S1⟩
theorem pdt_val {e : Expr} {t : CE} (h : PD X g xk e t) (he : ∀ whole, isTrue e X.env whole = (do let v ← whole; standAt e.pos; holding [v] (truthy v)) := by intro _; rfl) : PDT X g xk e (cB t) := by
  refine ⟨PT.imp (pt_val h.pe he) fun σ H Q r => ?_⟩
  obtain ⟨C, ρ, n, O, k, ke, hK, E, t, x, q⟩ := r
  refine ⟨C, ρ, n, O, _, ke, hK, E, t, x, fun d ρ1 n1 v H1 O1 k1 E1 S1 i1 => ?_⟩
  obtain ⟨b, rfl, k1⟩ := k1
  have e := isBl i1
  subst e
  exact ⟨b, rfl, q _ _ _ _ _ k1 E1 S1⟩
def cNotT (t : CT) : CT := fun ρ n k ke => t ρ n (fun b ρ' n' => k (!b) ρ' n') ke
theorem pdt_not {e : Expr} {t : CT} (h : PDT X g xk e t) : PDT X g xk (.UnaryOp .Not e pos) (cNotT t) :=
  ⟨PT.imp (pt_not h.pt) fun σ H Q ⟨C, ρ, n, O, k, ke, hK, E, t, x, q⟩ => ⟨C, ρ, n, O, _, ke, hK, E, t, x, fun b ρ1 n1 H1 O1 k1 E1 S1 => q _ _ _ _ _ k1 E1 S1⟩⟩
def cIf (tc : CT) (ta tb : CE) : CE := fun ρ n k ke => tc ρ n (fun b ρ' n' => if b = true then ta ρ' n' k ke else tb ρ' n' k ke) ke
theorem pd_if {c a b : Expr} {tc : CT} {ta tb : CE} (hc : PDT X g xk c tc) (ha : PD X g xk a ta) (hb : PD X g xk b tb) : PD X g xk (.IfExp c a b pos) (cIf tc ta tb) := by
  refine ⟨PE.imp (pe_ifExp hc.pt ha.pe hb.pe) fun σ H Q r => ?_⟩
  obtain ⟨C, ρ, n, O, k, ke, hK, E, t, x, q⟩ := r
  refine ⟨C, ρ, n, O, _, ke, hK, E, t, x, fun b ρ1 n1 H1 O1 k1 E1 S1 => ?_⟩
  cases b with
  | true => exact ⟨C, ρ1, n1, O1, k, ke, hK, E1, k1, x, fun d ρ2 n2 v H2 O2 k2 E2 S2 i2 => q _ _ _ _ _ _ k2 E2 (S1.trans S2) i2⟩
  | false => exact ⟨C, ρ1, n1, O1, k, ke, hK, E1, k1, x, fun d ρ2 n2 v H2 O2 k2 E2 S2 i2 => q _ _ _ _ _ _ k2 E2 (S1.trans S2) i2⟩
end
end RM
namespace RM
open PySem PySem.Spec PyProof.Rows L2 CS RZ
/-! ### what the operators make of data -/
def addD : D → D → Option D
  | .int i, .int j => some (.int (i + j))
  | .str a, .str b => if a.length + b.length ≤ lim then some (.str (a ++ b)) else none
  | .list a, .list b => if a.length + b.length ≤ lim then some (.list (a ++ b)) else none
  | .tuple a, .tuple b => if a.length + b.length ≤ lim then some (.tuple (a ++ b)) else none
  | _, _ => none
def subD : D → D → Option D
  | .int i, .int j => some (.int (i - j))
  | _, _ => none
def powD : D → D → Option D
  | .int i, .int j => if 0 ≤ j ∧ j ≤ 1000000 ∧ i.natAbs < 2 ^ 64 then some (.int (i ^ j.toNat)) else none
  | _, _ => none
/-- what may be compared as data -/
def okE (d : D) : Bool := plain d && SeqAt.shaped d
def eqD (x y : D) : Option D := if (okE x && okE y) = true then some (.bool (PyData.eqv x y)) else none
def neD (x y : D) : Option D := if (okE x && okE y) = true then some (.bool (!PyData.eqv x y)) else none
def ltD : D → D → Option D
  | .int i, .int j => some (.bool (decide (i < j)))
  | .str i, .str j => some (.bool (decide (i.cps.toList < j.cps.toList)))
  | _, _ => none
def leD : D → D → Option D
  | .int i, .int j => some (.bool (decide (i ≤ j)))
  | _, _ => none
def gtD : D → D → Option D
  | .int i, .int j => some (.bool (decide (j < i)))
  | .str i, .str j => some (.bool (decide (j.cps.toList < i.cps.toList)))
  | _, _ => none
def noneB : D → Bool
  | .none => true
  | _ => false
def anyD (ds : List D) (x : D) : Bool := ds.any fun z => PyData.eqv z x
def memD (x : D) : D → Option Bool
  | .list ds => if (okE x && okE (.list ds)) = true then some (anyD ds x) else none
  | .tuple ds => if (okE x && okE (.tuple ds)) = true then some (anyD ds x) else none
  | _ => none
def inD (x y : D) : Option D := (memD x y).map .bool
section
variable {X : Cx}
theorem ifs {c : Prop} [Decidable c] {α : Type} {a b : α} (h : (if c then some a else none) = some b) : c ∧ a = b := by
  split at h
  · rename_i q
    exact ⟨q, Option.some.inj h⟩
  · cases h
theorem Is.int' {T : Tab} {H : Hp} {v : V} {i : Int} (h : Is T H v (.int i)) : v = .int i := by cases h; rfl
theorem Is.str' {T : Tab} {H : Hp} {v : V} {i : Str} (h : Is T H v (.str i)) : v = .str i := by cases h; rfl
theorem Is.list' {T : Tab} {H : Hp} {v : V} {ds : List D} (h : Is T H v (.list ds)) : ∃ a xs, v = .ref a ∧ H a = some (.lst xs) ∧ IsL T H xs ds := by
  cases h with
  | lst g r => exact ⟨_, _, rfl, g, r⟩
theorem Is.tup' {T : Tab} {H : Hp} {v : V} {ds : List D} (h : Is T H v (.tuple ds)) : ∃ a xs, v = .ref a ∧ SqT T.K H a xs ∧ IsL T H xs ds := by
  cases h with
  | tup g r => exact ⟨_, _, rfl, g, r⟩
theorem newL {T : Tab} {Hh H : Hp} {ds : List D} {xs : List V} {Q : VK} (q : NewQ T Hh H (.list ds) Q) (i : IsL T Hh xs ds) : ∀ p, H p = none → Q (.ref p) (upd H p (.lst xs)) := fun p hp =>
  q _ _ (same_new hp) fun Hx s1 s2 => .lst (s2 _ _ upd_same hp) (i.same s1)
theorem newT {T : Tab} {Hh H : Hp} {ds : List D} {xs : List V} {Q : VK} (q : NewQ T Hh H (.tuple ds) Q) (i : IsL T Hh xs ds) : ∀ p, H p = none → Q (.ref p) (upd H p (.tup xs)) := fun p hp =>
  q _ _ (same_new hp) fun Hx s1 s2 => .tup (.inl (.inl (s2 _ _ upd_same hp))) (i.same s1)
theorem oldV {T : Tab} {Hh H : Hp} {d : D} {v : V} {Q : VK} (q : NewQ T Hh H d Q) (i : Is T Hh v d) : Q v H := q _ _ (Same.refl _) fun Hx s1 _ => i.same s1
theorem od_add : OpD X (binaryOp .Add) addD := by
  refine ⟨_, op_add.or (op_add_str.or (op_cat.or op_catA)), fun T Hh H x y dx dy z Q hK s ix iy hg q => ?_⟩
  unfold addD at hg
  split at hg
  · cases hg
    rw [ix.int', iy.int']
    exact .inl ⟨_, _, rfl, rfl, q.flat fun _ => .int _⟩
  · obtain ⟨c, rfl⟩ := ifs hg
    rw [ix.str', iy.str']
    exact .inr (.inl ⟨_, _, rfl, rfl, lim_le c, q.flat fun _ => .str _⟩)
  · obtain ⟨c, rfl⟩ := ifs hg
    obtain ⟨a, xs, rfl, ha, ra⟩ := ix.list'
    obtain ⟨b, ys, rfl, hb, rb⟩ := iy.list'
    exact .inr (.inr (.inl ⟨a, b, xs, ys, rfl, rfl, s _ _ ha, s _ _ hb, by rw [ra.length, rb.length]; exact lim_le c, newL q (ra.append rb)⟩))
  · obtain ⟨c, rfl⟩ := ifs hg
    obtain ⟨a, xs, rfl, ha, ra⟩ := ix.tup'
    obtain ⟨b, ys, rfl, hb, rb⟩ := iy.tup'
    refine .inr (.inr (.inr ⟨a, b, xs, ys, rfl, rfl, hK ▸ sqt_same s ha, hK ▸ sqt_same s hb, by rw [ra.length, rb.length]; exact lim_le c, fun e => ?_, fun _ e => ?_, fun _ _ => newT q (ra.append rb)⟩))
    · subst e
      cases ra
      exact oldV q (.tup hb rb)
    · subst e
      cases rb
      rw [List.append_nil] at q
      exact oldV q (.tup ha ra)
  · cases hg
theorem od_sub : OpD X (binaryOp .Sub) subD := by
  refine ⟨_, op_sub, fun T Hh H x y dx dy z Q hK s ix iy hg q => ?_⟩
  unfold subD at hg
  split at hg
  · cases hg
    rw [ix.int', iy.int']
    exact ⟨_, _, rfl, rfl, q.flat fun _ => .int _⟩
  · cases hg
theorem od_pow : OpD X (binaryOp .Pow) powD := by
  refine ⟨_, op_pow, fun T Hh H x y dx dy z Q hK s ix iy hg q => ?_⟩
  unfold powD at hg
  split at hg
  · obtain ⟨c, rfl⟩ := ifs hg
    rw [ix.int', iy.int']
    exact ⟨_, _, rfl, rfl, c, q.flat fun _ => .int _⟩
  · cases hg
theorem okE2 {x y : D} (h : (okE x && okE y) = true) : plain x = true ∧ SeqAt.shaped x = true ∧ plain y = true ∧ SeqAt.shaped y = true := by
  unfold okE at h
  simp only [Bool.and_eq_true] at h
  exact ⟨h.1.1, h.1.2, h.2.1, h.2.2⟩
theorem od_eq (hu : X.A.units + 64 < cLine) : OpD X (compareOp .Eq) eqD := by
  refine ⟨_, op_eqD hu, fun T Hh H x y dx dy z Q hK s ix iy hg q => ?_⟩
  obtain ⟨c, rfl⟩ := ifs hg
  obtain ⟨p1, s1, p2, s2⟩ := okE2 c
  exact ⟨dx, dy, hK ▸ (ix.same s).dp p1, hK ▸ (iy.same s).dp p2, s1, s2, q.flat fun _ => .bl _⟩
theorem od_ne (hu : X.A.units + 64 < cLine) : OpD X (compareOp .NotEq) neD := by
  refine ⟨_, op_neD hu, fun T Hh H x y dx dy z Q hK s ix iy hg q => ?_⟩
  obtain ⟨c, rfl⟩ := ifs hg
  obtain ⟨p1, s1, p2, s2⟩ := okE2 c
  exact ⟨dx, dy, hK ▸ (ix.same s).dp p1, hK ▸ (iy.same s).dp p2, s1, s2, q.flat fun _ => .bl _⟩
theorem od_lt : OpD X (compareOp .Lt) ltD := by
  refine ⟨_, op_lt.or op_lt_str, fun T Hh H x y dx dy z Q hK s ix iy hg q => ?_⟩
  unfold ltD at hg
  split at hg
  · cases hg
    rw [ix.int', iy.int']
    exact .inl ⟨_, _, rfl, rfl, q.flat fun _ => .bl _⟩
  · cases hg
    rw [ix.str', iy.str']
    exact .inr ⟨_, _, rfl, rfl, q.flat fun _ => .bl _⟩
  · cases hg
theorem od_gt : OpD X (compareOp .Gt) gtD := by
  refine ⟨_, op_gt.or op_gt_str, fun T Hh H x y dx dy z Q hK s ix iy hg q => ?_⟩
  unfold gtD at hg
  split at hg
  · cases hg
    rw [ix.int', iy.int']
    exact .inl ⟨_, _, rfl, rfl, q.flat fun _ => .bl _⟩
  · cases hg
    rw [ix.str', iy.str']
    exact .inr ⟨_, _, rfl, rfl, q.flat fun _ => .bl _⟩
  · cases hg
theorem od_le : OpD X (compareOp .LtE) leD := by
  refine ⟨_, op_le, fun T Hh H x y dx dy z Q hK s ix iy hg q => ?_⟩
  unfold leD at hg
  split at hg
  · cases hg
    rw [ix.int', iy.int']
    exact ⟨_, _, rfl, rfl, q.flat fun _ => .bl _⟩
  · cases hg
/-! x in a tuple of data -/
end
end RM
namespace RM
open PySem PySem.Spec PyProof.Rows L2 CS RZ
/-! ### calls of built-ins -/
def CallD (X : Cx) (f : Value) (g : List D → D → Prop) : Prop := ∃ r, CallR X f r ∧ ∀ (T : Tab) (Hh H : Hp) (vs : List V) (ds : List D) (z : D) (Q : VK), T.K = X.K → Same Hh H → IsL T Hh vs ds → g ds z → NewQ T Hh H z Q → r vs H Q
/-- .. whose result is a new list -/
def CallF (X : Cx) (f : Value) (g : List D → List D → Prop) : Prop := ∃ r, CallR X f r ∧ ∀ (T : Tab) (Hh H : Hp) (vs : List V) (ds : List D) (z : List D) (Q : VK), T.K = X.K → Same Hh H → IsL T Hh vs ds → g ds z → (∀ xs, IsL T Hh xs z → ∀ p, H p = none → Q (.ref p) (upd H p (.lst xs))) → r vs H Q
def cCB (g : List D → D → Prop) (ta : CA) : CE := fun ρ n k ke => ta ρ n (fun ds ρ' n' => ∃ z, g ds z ∧ k z ρ' n') ke
def cCF (g : List D → List D → Prop) (ta : CA) : CE := fun ρ n k ke => ta ρ n (fun ds ρ' n' => ∃ z, g ds z ∧ k (.list z) ρ' n') ke
theorem CallD.or {X : Cx} {f : Value} {g g' : List D → D → Prop} (h : CallD X f g) (h' : CallD X f g') : CallD X f (fun ds z => g ds z ∨ g' ds z) := by
  obtain ⟨r, h1, h2⟩ := h
  obtain ⟨r', h1', h2'⟩ := h'
  exact ⟨_, h1.or h1', fun T Hh H vs ds z Q a b c d e => d.elim (fun d => .inl (h2 T Hh H vs ds z Q a b c d e)) fun d => .inr (h2' T Hh H vs ds z Q a b c d e)⟩
theorem CallF.or {X : Cx} {f : Value} {g g' : List D → List D → Prop} (h : CallF X f g) (h' : CallF X f g') : CallF X f (fun ds z => g ds z ∨ g' ds z) := by
  obtain ⟨r, h1, h2⟩ := h
  obtain ⟨r', h1', h2'⟩ := h'
  exact ⟨_, h1.or h1', fun T Hh H vs ds z Q a b c d e => d.elim (fun d => .inl (h2 T Hh H vs ds z Q a b c d e)) fun d => .inr (h2' T Hh H vs ds z Q a b c d e)⟩
section
variable {X : Cx} {g : Glob} {xk : WX} {pos p : Pos} {x : Str} {e : Expr} {es : List Expr} {ta : CA} {id : String} {u : List D → D → Prop} {gl : List D → List D → Prop}
theorem cb_use {r : List V → Hp → VK → Prop} (G : Good X g) (hg : ∀ (T : Tab) (Hh H : Hp) (vs : List V) (ds : List D) (z : D) (Q : VK), T.K = X.K → Same Hh H → IsL T Hh vs ds → u ds z → NewQ T Hh H z Q → r vs H Q)
    {σ : L2.St} {H : Hp} {Q : VK} (h : lift g xk (cCB u ta) σ H Q) : tCB r (liftA g xk ta) σ H Q := by
  obtain ⟨C, ρ, n, O, k, ke, hK, E, t, x, q⟩ := h
  refine ⟨C, ρ, n, O, _, ke, hK, E, t, x, fun ds ρ1 n1 vs H1 O1 k1 E1 S1 i1 => ?_⟩
  obtain ⟨z, hz, k1⟩ := k1
  exact hg C.T (hid C O1 H1) H1 vs ds z Q (hK.1.trans G.K) hid_le i1 hz (newq E1 fun v3 H3 E3 S3 i3 => q _ _ _ _ _ _ k1 E3 (S1.trans S3) i3)
theorem cf_use {r : List V → Hp → VK → Prop} (G : Good X g) (hg : ∀ (T : Tab) (Hh H : Hp) (vs : List V) (ds : List D) (z : List D) (Q : VK), T.K = X.K → Same Hh H → IsL T Hh vs ds → gl ds z → (∀ xs, IsL T Hh xs z → ∀ p, H p = none → Q (.ref p) (upd H p (.lst xs))) → r vs H Q)
    {σ : L2.St} {H : Hp} {Q : VK} (h : liftF g xk (cCF gl ta) σ H Q) : tCB r (liftA g xk ta) σ H Q := by
  obtain ⟨C, ρ, n, O, k, ke, hK, E, t, x, q⟩ := h
  refine ⟨C, ρ, n, O, _, ke, hK, E, t, x, fun ds ρ1 n1 vs H1 O1 k1 E1 S1 i1 => ?_⟩
  obtain ⟨z, hz, k1⟩ := k1
  exact hg C.T (hid C O1 H1) H1 vs ds z Q (hK.1.trans G.K) hid_le i1 hz fun xs ix p hp => q _ _ _ _ _ _ _ k1 E1 S1 hp (same_new hp) (.lst upd_same ix) rfl
theorem pd_callB (hc : CallD X (.builtin id) u) (G : Good X g) (hg : Gl X x) (hm : X.mg x = none) (hv : bootBuiltins x = some (.builtin id)) (ha : PDA X g xk (e :: es) ta) (hn : x ≠ "__name__" := by decide) (hdb : (x == ("__debug__" : Str)) = false := by decide)
    (he : starEach (e :: es) X.env = (false, eval e X.env) :: starEach es X.env := by rfl) (hpl : (backTo pos (starEach es X.env)).any (·.1) = false := by rfl) : PD X g xk (.Call (.Name x p) (e :: es) [] pos) (cCB u ta) := by
  obtain ⟨r, hr, hg'⟩ := hc
  exact ⟨PE.imp (pe_callB hr hg hm hv ha.pa hn hdb he hpl) fun σ H Q h => cb_use G hg' h⟩
theorem pd_callTy (hc : CallD X (.type id) u) (G : Good X g) (hg : Gl X x) (hm : X.mg x = none) (hv : bootBuiltins x = some (.type id)) (ha : PDA X g xk (e :: es) ta) (hn : x ≠ "__name__" := by decide) (hdb : (x == ("__debug__" : Str)) = false := by decide)
    (he : starEach (e :: es) X.env = (false, eval e X.env) :: starEach es X.env := by rfl) (hpl : (backTo pos (starEach es X.env)).any (·.1) = false := by rfl) : PD X g xk (.Call (.Name x p) (e :: es) [] pos) (cCB u ta) := by
  obtain ⟨r, hr, hg'⟩ := hc
  exact ⟨PE.imp (pe_callTy hr hg hm hv ha.pa hn hdb he hpl) fun σ H Q h => cb_use G hg' h⟩
theorem pf_callTy (hc : CallF X (.type id) gl) (G : Good X g) (hg : Gl X x) (hm : X.mg x = none) (hv : bootBuiltins x = some (.type id)) (ha : PDA X g xk (e :: es) ta) (hn : x ≠ "__name__" := by decide) (hdb : (x == ("__debug__" : Str)) = false := by decide)
    (he : starEach (e :: es) X.env = (false, eval e X.env) :: starEach es X.env := by rfl) (hpl : (backTo pos (starEach es X.env)).any (·.1) = false := by rfl) : PDF X g xk (.Call (.Name x p) (e :: es) [] pos) (cCF gl ta) := by
  obtain ⟨r, hr, hg'⟩ := hc
  exact ⟨PE.imp (pe_callTy hr hg hm hv ha.pa hn hdb he hpl) fun σ H Q h => cf_use G hg' h⟩
/-! which built-ins -/
def lenD : D → Option Nat
  | .list ds => some ds.length
  | .tuple ds => some ds.length
  | .str z => if z.length ≤ lim then some z.length else none
  | _ => none
def gLen (ds : List D) (z : D) : Prop := ∃ x n, ds = [x] ∧ lenD x = some n ∧ z = .int (n : Nat)
def seqD : D → Option (List D)
  | .list ds => some ds
  | .tuple ds => some ds
  | _ => none
def gTuple (ds : List D) (z : D) : Prop := ∃ x xs, ds = [x] ∧ seqD x = some xs ∧ z = .tuple xs
def gList (ds : List D) (z : List D) : Prop := ∃ x, ds = [x] ∧ seqD x = some z
def intsD (is : List Int) : List D := is.map PyData.int
def gSum (ds : List D) (z : D) : Prop := ∃ is, ds = [.list (intsD is)] ∧ z = .int is.sum
def boolsD (bs : List Bool) : List D := bs.map PyData.bool
def gAll (ds : List D) (z : D) : Prop := ∃ bs, ds = [.list (boolsD bs)] ∧ z = .bool (bs.all _root_.id)
def gMin2 (ds : List D) (z : D) : Prop := ∃ i j, ds = [.int i, .int j] ∧ z = .int (if j < i then j else i)
def gMin1 (ds : List D) (z : D) : Prop := ∃ is m, ds = [.list (intsD is)] ∧ z = .int m ∧ m ∈ is ∧ ∀ y ∈ is, m ≤ y
def leD' (a b : D) : Bool := PySem.W.dataLe false (fun d : D => d) a b
theorem IsL.one {T : Tab} {H : Hp} {vs : List V} {d : D} (h : IsL T H vs [d]) : ∃ v, vs = [v] ∧ Is T H v d := by
  cases h with
  | cons a b => cases b; exact ⟨_, rfl, a⟩
theorem IsL.two {T : Tab} {H : Hp} {vs : List V} {d e : D} (h : IsL T H vs [d, e]) : ∃ v u, vs = [v, u] ∧ Is T H v d ∧ Is T H u e := by
  cases h with
  | cons a b => obtain ⟨u, rfl, hu⟩ := b.one; exact ⟨_, _, rfl, a, hu⟩
theorem IsL.ints {T : Tab} {H : Hp} : ∀ {vs : List V} {is : List Int}, IsL T H vs (intsD is) → vs = is.map V.int
  | _, [], .nil => rfl
  | _, i :: is, .cons a b => by rw [List.map_cons, a.int', IsL.ints (is := is) b]
theorem IsL.bools {T : Tab} {H : Hp} : ∀ {vs : List V} {is : List Bool}, IsL T H vs (boolsD is) → vs = is.map V.bl
  | _, [], .nil => rfl
  | _, i :: is, .cons a b => by rw [List.map_cons, isBl a, IsL.bools (is := is) b]
theorem Is.seq {T : Tab} {H : Hp} {v : V} {d : D} {ds : List D} (h : Is T H v d) (e : seqD d = some ds) : ∃ a xs, v = .ref a ∧ IsL T H xs ds ∧ ((d = .list ds ∧ H a = some (.lst xs)) ∨ (d = .tuple ds ∧ SqT T.K H a xs)) := by
  cases h with
  | lst g r => cases e; exact ⟨_, _, rfl, r, .inl ⟨rfl, g⟩⟩
  | tup g r => cases e; exact ⟨_, _, rfl, r, .inr ⟨rfl, g⟩⟩
  | _ => cases e
theorem cd_len : CallD X (.builtin "len") gLen := by
  refine ⟨_, call_len_seq.or call_len_str, fun T Hh H vs ds z Q hK s il hg q => ?_⟩
  obtain ⟨y, n, rfl, hn, rfl⟩ := hg
  obtain ⟨v, rfl, iv⟩ := il.one
  unfold lenD at hn
  split at hn
  · cases hn
    obtain ⟨a, xs, rfl, ha, r⟩ := iv.list'
    exact .inl ⟨a, xs, rfl, .inl (SqL.of (s _ _ ha)), by rw [r.length]; exact q.flat fun _ => .int _⟩
  · cases hn
    obtain ⟨a, xs, rfl, ha, r⟩ := iv.tup'
    exact .inl ⟨a, xs, rfl, .inr (hK ▸ sqt_same s ha), by rw [r.length]; exact q.flat fun _ => .int _⟩
  · obtain ⟨c, rfl⟩ := ifs hn
    rw [iv.str']
    exact .inr ⟨_, rfl, lim_le c, q.flat fun _ => .int _⟩
  · cases hn
theorem cd_tuple : CallD X (.type "tuple") gTuple := by
  refine ⟨_, call_tuple_of, fun T Hh H vs ds z Q hK s il hg q => ?_⟩
  obtain ⟨y, xs, rfl, hs, rfl⟩ := hg
  obtain ⟨v, rfl, iv⟩ := il.one
  obtain ⟨a, us, rfl, r, c⟩ := iv.seq hs
  rcases c with ⟨_, c⟩ | ⟨_, c⟩
  · exact ⟨a, us, rfl, .inl ⟨SqL.of (s _ _ c), newT q r⟩⟩
  · exact ⟨a, us, rfl, .inr ⟨hK ▸ sqt_same s c, oldV q (.tup c r)⟩⟩
theorem cf_list : CallF X (.type "list") gList := by
  refine ⟨_, call_list_of, fun T Hh H vs ds z Q hK s il hg q => ?_⟩
  obtain ⟨y, rfl, hs⟩ := hg
  obtain ⟨v, rfl, iv⟩ := il.one
  obtain ⟨a, us, rfl, r, c⟩ := iv.seq hs
  rcases c with ⟨_, c⟩ | ⟨_, c⟩
  · exact ⟨a, us, rfl, .inl (SqL.of (s _ _ c)), q _ r⟩
  · exact ⟨a, us, rfl, .inr (hK ▸ sqt_same s c), q _ r⟩
theorem cd_all (hc : X.calm = true) : CallD X (.builtin "all") gAll := by
  refine ⟨_, cr_all hc, fun T Hh H vs ds z Q hK s il hg q => ?_⟩
  obtain ⟨is, rfl, rfl⟩ := hg
  obtain ⟨v, rfl, iv⟩ := il.one
  obtain ⟨a, xs, rfl, ha, r⟩ := iv.list'
  rw [r.bools] at ha
  exact ⟨a, is, rfl, SqL.of (s _ _ ha), q.flat fun _ => .bl _⟩
theorem cd_min (hc : X.calm = true) : CallD X (.builtin "min") (fun ds z => gMin2 ds z ∨ gMin1 ds z) := by
  refine ⟨_, (call_min2 hc).or (cr_min hc), fun T Hh H vs ds z Q hK s il hg q => ?_⟩
  rcases hg with ⟨i, j, rfl, rfl⟩ | ⟨is, m, rfl, rfl, hm, hy⟩
  · obtain ⟨v, u, rfl, iv, iu⟩ := il.two
    rw [iv.int', iu.int']
    exact .inl ⟨i, j, rfl, q.flat fun _ => .int _⟩
  · obtain ⟨v, rfl, iv⟩ := il.one
    obtain ⟨a, xs, rfl, ha, r⟩ := iv.list'
    rw [r.ints] at ha
    refine .inr ⟨a, is, rfl, SqL.of (s _ _ ha), List.length_pos_of_mem hm, fun m' h1 h2 => ?_⟩
    have e : m' = m := Int.le_antisymm (h2 m hm) (hy m' h1)
    rw [e]
    exact q.flat fun _ => .int _
/-! ### subscripts, slices -/
def atD : D → D → Option D
  | .list ds, .int i => atI ds i
  | .tuple ds, .int i => atI ds i
  | .str z, .int i => if z.length ≤ lim then (atI z.cps.toList i).map fun c => .str ⟨#[c]⟩ else none
  | _, _ => none
def IxD (X : Cx) (g : D → D → Option D) : Prop := ∃ r, IxR X r ∧ ∀ (T : Tab) (Hh H : Hp) (x y : V) (dx dy z : D) (Q : VK), T.K = X.K → Same Hh H → Is T Hh x dx → Is T Hh y dy → g dx dy = some z → NewQ T Hh H z Q → r x y H Q
theorem atI_is {T : Tab} {H : Hp} {xs : List V} {ds : List D} {i : Int} {z : D} (h : IsL T H xs ds) (e : atI ds i = some z) : ∃ v, atI xs i = some v ∧ Is T H v z := by
  unfold atI at e ⊢
  rw [h.length]
  cases q : ixN ds.length i with
  | none => rw [q] at e; cases e
  | some j =>
    rw [q] at e
    exact h.get e
theorem ix_at : IxD X atD := by
  refine ⟨_, ix_seq, fun T Hh H x y dx dy z Q hK s ix iy hg q => ?_⟩
  unfold atD at hg
  split at hg
  · obtain ⟨a, xs, rfl, ha, r⟩ := ix.list'
    obtain ⟨v, h1, h2⟩ := atI_is r hg
    rw [iy.int']
    exact .inl ⟨a, xs, _, v, rfl, rfl, SqL.of (s _ _ ha), h1, oldV q h2⟩
  · obtain ⟨a, xs, rfl, ha, r⟩ := ix.tup'
    obtain ⟨v, h1, h2⟩ := atI_is r hg
    rw [iy.int']
    exact .inr (.inl ⟨a, xs, _, v, rfl, rfl, hK ▸ sqt_same s ha, h1, oldV q h2⟩)
  · rw [ix.str', iy.int']
    split at hg
    · rename_i z0 i c
      cases h : atI z0.cps.toList i with
      | none =>
        rw [h] at hg
        cases hg
      | some c' =>
        rw [h] at hg
        cases hg
        exact .inr (.inr ⟨_, _, c', rfl, rfl, lim_le c, h, q.flat fun _ => .str _⟩)
    · cases hg
  · cases hg
theorem pd_ix {u : D → D → Option D} {a b : Expr} {ta tb : CE} (hi : IxD X u) (G : Good X g) (ha : PD X g xk a ta) (hb : PD X g xk b tb) (hs : PlainIx b) : PD X g xk (.Subscript a b pos) (cOp u ta tb) := by
  obtain ⟨r, hr, hg⟩ := hi
  exact ⟨PE.imp (pe_ix hr ha.pe hb.pe hs) fun σ H Q h => op_use (f := getItem) G hg h⟩
abbrev CO := En → Nat → (Option Int → En → Nat → Prop) → KE → Prop
def liftO (g : Glob) (xk : WX) (td : CO) : TO := fun σ H Q => ∃ (C : Ctx) (ρ : En) (n : Nat) (O : Ow) (k : Option Int → En → Nat → Prop) (ke : KE), C.On g ∧ Ev C ρ n σ H O ∧ td ρ n k ke ∧ XL C xk ke ∧
  ∀ (b : Option Int) (ρ' : En) (n' : Nat) (H' : Hp) (O' : Ow), k b ρ' n' → Ev C ρ' n' σ H' O' → Same (hid C O H) (hid C O' H') → Q b H'
structure PDO (X : Cx) (g : Glob) (xk : WX) (e : Option Expr) (td : CO) : Prop where
  po : PO X e (liftO g xk td)
def cNo : CO := fun ρ n k _ => k none ρ n
def cPart (t : CE) : CO := fun ρ n k ke => t ρ n (fun d ρ' n' => ∃ i, d = .int i ∧ k (some i) ρ' n') ke
theorem po_imp {e : Option Expr} {t t' : TO} (h : PO X e t) (q : ∀ σ H Q, t' σ H Q → t σ H Q) : PO X e t' := ⟨fun pins s σ H Q I r => h.run pins s σ H Q I (q _ _ _ r)⟩
theorem pdo_none : PDO X g xk none cNo := ⟨po_imp po_none fun σ H Q ⟨C, ρ, n, O, k, ke, hK, E, t, x, q⟩ => q _ _ _ _ _ t E (Same.refl _)⟩
theorem pdo_some {t : CE} (h : PD X g xk e t) : PDO X g xk (some e) (cPart t) := by
  refine ⟨po_imp (po_some h.pe) fun σ H Q r => ?_⟩
  obtain ⟨C, ρ, n, O, k, ke, hK, E, t, x, q⟩ := r
  refine ⟨C, ρ, n, O, _, ke, hK, E, t, x, fun d ρ1 n1 v H1 O1 k1 E1 S1 i1 => ?_⟩
  obtain ⟨i, rfl, k1⟩ := k1
  have e := i1.int'
  subst e
  exact ⟨i, rfl, q _ _ _ _ _ k1 E1 S1⟩
def cutL (ds : List D) (lo hi : Option Int) : List D := (ds.drop (HT.sIx ds.length 0 lo)).take (HT.sIx ds.length ds.length hi - HT.sIx ds.length 0 lo)
def sliceD : D → Option Int → Option Int → Option D
  | .list ds, lo, hi => some (.list (cutL ds lo hi))
  | .tuple ds, lo, hi => some (.tuple (cutL ds lo hi))
  | .str z, lo, hi => if z.length ≤ lim then some (.str (cutS z lo hi)) else none
  | _, _, _ => none
def cSl (ta : CE) (tl th : CO) : CE := fun ρ n k ke => ta ρ n (fun x ρ1 n1 => tl ρ1 n1 (fun lo ρ2 n2 => th ρ2 n2 (fun hi ρ3 n3 => ∃ z, sliceD x lo hi = some z ∧ k z ρ3 n3) ke) ke) ke
theorem cutV_is {T : Tab} {H : Hp} {xs : List V} {ds : List D} (lo hi : Option Int) (h : IsL T H xs ds) : IsL T H (cutV xs lo hi) (cutL ds lo hi) := by
  unfold cutV cutL
  rw [h.length]
  exact (h.drop _).take _
theorem pd_slice {a : Expr} {lo hi : Option Expr} {ta : CE} {tl th : CO} {p2 : Pos} (G : Good X g) (ha : PD X g xk a ta) (hl : PDO X g xk lo tl) (hh : PDO X g xk hi th) : PD X g xk (.Subscript a (.Slice lo hi none p2) pos) (cSl ta tl th) := by
  refine ⟨PE.imp (pe_slice (SlR.or sl_list (SlR.or sl_tupA sl_str)) ha.pe hl.po hh.po) fun σ H Q h => ?_⟩
  obtain ⟨C, ρ, n, O, k, ke, hK, E, t, x, q⟩ := h
  refine ⟨C, ρ, n, O, _, ke, hK, E, t, x, fun d ρ1 n1 v H1 O1 k1 E1 S1 i1 => ⟨C, ρ1, n1, O1, _, ke, hK, E1, k1, x, fun lo ρ2 n2 H2 O2 k2 E2 S2 => ⟨C, ρ2, n2, O2, _, ke, hK, E2, k2, x, fun hi ρ3 n3 H3 O3 k3 E3 S3 => ?_⟩⟩⟩
  obtain ⟨z, hz, k3⟩ := k3
  have i3 := (i1.same S2).same S3
  have nq : NewQ C.T (hid C O3 H3) H3 z Q := newq E3 fun v4 H4 E4 S4 i4 => q _ _ _ _ _ _ k3 E4 (((S1.trans S2).trans S3).trans S4) i4
  unfold sliceD at hz
  split at hz
  · cases hz
    obtain ⟨a, xs, rfl, ha, r⟩ := i3.list'
    exact .inl ⟨a, xs, rfl, SqL.of (hid_le _ _ ha), newL nq (cutV_is _ _ r)⟩
  · cases hz
    obtain ⟨a, xs, rfl, ha, r⟩ := i3.tup'
    refine .inr (.inl ⟨a, xs, rfl, (hK.1.trans G.K) ▸ sqt_same hid_le ha, fun c => ?_, fun _ => newT nq (cutV_is _ _ r)⟩)
    have e : cutV xs lo hi = xs := by
      unfold cutV
      rw [c.1, c.2, Nat.sub_zero]
      exact List.take_length
    have r2 := cutV_is lo hi r
    rw [e] at r2
    exact oldV nq (.tup ha r2)
  · obtain ⟨c, rfl⟩ := ifs hz
    rw [i3.str']
    exact .inr (.inr ⟨_, rfl, lim_le c, nq.flat fun _ => .str _⟩)
  · cases hz
end
end RM
namespace RM
open PySem PySem.Spec PyProof.Rows L2 CS RZ
/-! ### what is walked -/
structure WalkD (T : Tab) (J : It) (ds : List D) (Hb : Hp) : Prop where
  ex : ∃ (G : Hp → Prop) (Y : Nat → Hp → V → Hp → Prop), Walk J ds.length G Y ∧ (∀ H, Same Hb H → G H) ∧ ∀ (i : Nat) (x : V) (H H2 : Hp) (d : D), Same Hb H → Y i H x H2 → ds[i]? = some d →
    Same H H2 ∧ ∀ Hx, Same Hb Hx → (∀ a o, H2 a = some o → H a = none → Hx a = some o) → Is T Hx x d
def liftI (g : Glob) (xk : WX) (td : CA) : TI := fun σ H R => ∃ (C : Ctx) (ρ : En) (n : Nat) (O : Ow) (k : List D → En → Nat → Prop) (ke : KE), C.On g ∧ Ev C ρ n σ H O ∧ td ρ n k ke ∧ XL C xk ke ∧
  ∀ (ds : List D) (ρ' : En) (n' : Nat) (J : It) (H' : Hp) (O' : Ow), k ds ρ' n' → Ev C ρ' n' σ H' O' → Same (hid C O H) (hid C O' H') → WalkD C.T J ds (hid C O' H') → R J H'
structure PDI (X : Cx) (g : Glob) (xk : WX) (tg : Expr) (e : Expr) (td : CA) : Prop where
  pi : PI X tg e (liftI g xk td)
theorem pi_imp {X : Cx} {tg e : Expr} {t t' : TI} (h : PI X tg e t) (q : ∀ σ H Q, t' σ H Q → t σ H Q) : PI X tg e t' := ⟨fun pins s σ H Q I r => h.run pins s σ H Q I (q _ _ _ r)⟩
section
variable {X : Cx} {g : Glob} {xk : WX} {tg : Expr} {pos p : Pos}
def iSeqV (K : PySem.W.Frag) (tl : TE) : TI := fun σ H R => tl σ H fun x H1 => ∃ a, x = .ref a ∧ (((∃ xs, SqL K H1 a xs) ∧ R (Itl K a) H1) ∨ ((∃ xs, SqT K H1 a xs) ∧ R (Itt K a) H1))
theorem pi_seqV {l : Expr} {tl : TE} (hl : PE X l tl) : PI X tg l (iSeqV X.K tl) := by
  refine ⟨fun pins s σ H R I h => ?_⟩
  refine thn (hl.run pins s σ H _ I h) fun v s1 ⟨x, H1, I1, r1, q1⟩ => ?_
  obtain ⟨a, e, q1⟩ := q1
  subst e
  cases r1
  have own : ∀ b ∈ [s1.heap.objs.size], _ := fun b hb => (List.mem_singleton.mp hb) ▸ I1.fpOk (Nat.le_refl _) (I1.hok.fresh (Nat.le_refl _))
  have up : ∀ (u : Obj) b o, s1.heap.get? b = some o → (s1.heap.push u).get? b = some o := fun _ _ _ e => Heap.get?_push_of_some _ e
  rcases q1 with ⟨⟨xs, hq⟩, q⟩ | ⟨⟨xs, hq⟩, q⟩
  · obtain ⟨_, _, p, _⟩ := I1.list hq
    exact wpAny_pyIter_list p.isList ⟨_, [s1.heap.objs.size], _, _, H1, rfl, I1.kept (t' := s1.toks) (up _), turn_list a _, ⟨_, Heap.get?_push_size _ rfl, rfl, rfl⟩, own, q⟩
  · obtain ⟨its, _, p, _⟩ := I1.tuple hq
    exact wpAny_pyIter_tuple (show s1.heap.IsTuple a its.toArray from p) ⟨_, [s1.heap.objs.size], _, _, H1, rfl, I1.kept (t' := s1.toks) (up _), turn_tuple a _, ⟨_, Heap.get?_push_size _ rfl, rfl, rfl⟩, own, q⟩
def cSeq (t : CE) : CA := fun ρ n k ke => t ρ n (fun d ρ' n' => ∃ ds, seqD d = some ds ∧ k ds ρ' n') ke
theorem walkd_list {T : Tab} {a : Addr} {xs : List V} {ds : List D} {Hb : Hp} (h : Hb a = some (.lst xs)) (r : IsL T Hb xs ds) : WalkD T (Itl T.K a) ds Hb :=
  ⟨⟨_, _, by rw [← r.length]; exact walk_list, fun H s => SqL.of (s _ _ h), fun i x H H2 d s y e => by
    obtain ⟨rfl, y⟩ := y
    obtain ⟨v, h1, h2⟩ := r.get e
    rw [y] at h1
    cases h1
    exact ⟨Same.refl _, fun Hx s2 _ => h2.same s2⟩⟩⟩
theorem walkd_tup {T : Tab} {a : Addr} {xs : List V} {ds : List D} {Hb : Hp} (h : SqT T.K Hb a xs) (r : IsL T Hb xs ds) : WalkD T (Itt T.K a) ds Hb :=
  ⟨⟨_, _, by rw [← r.length]; exact walk_tup, fun H s => sqt_same s h, fun i x H H2 d s y e => by
    obtain ⟨rfl, y⟩ := y
    obtain ⟨v, h1, h2⟩ := r.get e
    rw [y] at h1
    cases h1
    exact ⟨Same.refl _, fun Hx s2 _ => h2.same s2⟩⟩⟩
theorem pdi_seq {e : Expr} {t : CE} (G : Good X g) (h : PD X g xk e t) : PDI X g xk tg e (cSeq t) := by
  refine ⟨pi_imp (pi_seqV h.pe) fun σ H R r => ?_⟩
  obtain ⟨C, ρ, n, O, k, ke, hK, E, t, x, q⟩ := r
  refine ⟨C, ρ, n, O, _, ke, hK, E, t, x, fun d ρ1 n1 v H1 O1 k1 E1 S1 i1 => ?_⟩
  obtain ⟨ds, hs, k1⟩ := k1
  obtain ⟨a, us, rfl, r, c⟩ := i1.seq hs
  have eK := hK.1.trans G.K
  rcases c with ⟨_, c⟩ | ⟨_, c⟩
  · exact ⟨a, rfl, .inl ⟨⟨us, SqL.of (hid_le _ _ c)⟩, q _ _ _ _ _ _ k1 E1 S1 (eK ▸ walkd_list c r)⟩⟩
  · exact ⟨a, rfl, .inr ⟨⟨us, eK ▸ sqt_same hid_le c⟩, q _ _ _ _ _ _ k1 E1 S1 (eK ▸ walkd_tup c r)⟩⟩
def rangeD (lo : Int) (n : Nat) : List D := (List.range n).map fun i => .int (lo + (i : Nat))
theorem walkd_range {T : Tab} {lo : Int} {n : Nat} {Hb : Hp} : WalkD T (Itr lo n) (rangeD lo n) Hb :=
  ⟨⟨_, _, by unfold rangeD; rw [List.length_map, List.length_range]; exact walk_range, fun _ _ => trivial, fun i x H H2 d s y e => by
    obtain ⟨rfl, rfl⟩ := y
    unfold rangeD at e
    rw [List.getElem?_map] at e
    cases h : (List.range n)[i]? with
    | none => rw [h] at e; cases e
    | some j =>
      rw [h] at e
      obtain ⟨h1, h2⟩ := List.getElem?_eq_some_iff.mp h
      rw [List.getElem_range] at h2
      cases e
      rw [h2]
      exact ⟨Same.refl _, fun _ _ _ => .int _⟩⟩⟩
def cRange1 (ta : CA) : CA := fun ρ n k ke => ta ρ n (fun ds ρ' n' => ∃ j : Int, ds = [.int j] ∧ (-(2 ^ 62) ≤ j ∧ j < 2 ^ 62) ∧ k (rangeD 0 j.toNat) ρ' n') ke
def cRange2 (ta : CA) : CA := fun ρ n k ke => ta ρ n (fun ds ρ' n' => ∃ i j : Int, ds = [.int i, .int j] ∧ (-(2 ^ 62) ≤ i ∧ i < 2 ^ 62 ∧ -(2 ^ 62) ≤ j ∧ j < 2 ^ 62) ∧ k (rangeD i (j - i).toNat) ρ' n') ke
theorem pdi_range1 {a : Expr} {ta : CA} (hg : Gl X "range") (hm : X.mg "range" = none) (ha : PDA X g xk [a] ta) (hs : starEach [a] X.env = [(false, eval a X.env)] := by rfl) : PDI X g xk tg (.Call (.Name "range" p) [a] [] pos) (cRange1 ta) := by
  refine ⟨pi_imp (pi_range1 hg hm ha.pa hs) fun σ H R r => ?_⟩
  obtain ⟨C, ρ, n, O, k, ke, hK, E, t, x, q⟩ := r
  refine ⟨C, ρ, n, O, _, ke, hK, E, t, x, fun d ρ1 n1 v H1 O1 k1 E1 S1 i1 => ?_⟩
  obtain ⟨j, rfl, ⟨c1, c2⟩, k1⟩ := k1
  obtain ⟨v, rfl, iv⟩ := i1.one
  rw [iv.int']
  exact ⟨j, rfl, c1, c2, q _ _ _ _ _ _ k1 E1 S1 walkd_range⟩
theorem pdi_range2 {a b : Expr} {ta : CA} (hg : Gl X "range") (hm : X.mg "range" = none) (ha : PDA X g xk [a, b] ta) (hs : starEach [a, b] X.env = [(false, eval a X.env), (false, eval b X.env)] := by rfl) (hs2 : starEach [b] X.env = [(false, eval b X.env)] := by rfl) :
    PDI X g xk tg (.Call (.Name "range" p) [a, b] [] pos) (cRange2 ta) := by
  refine ⟨pi_imp (pi_range2 hg hm ha.pa hs hs2) fun σ H R r => ?_⟩
  obtain ⟨C, ρ, n, O, k, ke, hK, E, t, x, q⟩ := r
  refine ⟨C, ρ, n, O, _, ke, hK, E, t, x, fun d ρ1 n1 v H1 O1 k1 E1 S1 i1 => ?_⟩
  obtain ⟨i, j, rfl, c, k1⟩ := k1
  obtain ⟨v, u, rfl, iv, iu⟩ := i1.two
  rw [iv.int', iu.int']
  exact ⟨i, j, rfl, c, q _ _ _ _ _ _ k1 E1 S1 walkd_range⟩
/-! ### targets -/
abbrev CG := D → En → Option En
def AgreeOff (js : List Nat) (σ σ' : L2.St) : Prop := σ'.length = σ.length ∧ ∀ j, j ∉ js → σ'[j]? = σ[j]?
def liftG (g : Glob) (js : List Nat) (cg : CG) : TG := fun v σ H Q => ∃ (C : Ctx) (ρ ρ' : En) (n : Nat) (O : Ow) (d : D), C.On g ∧ Ev C ρ n σ H O ∧ Is C.T (hid C O H) v d ∧ cg d ρ = some ρ' ∧
  ∀ (σ' : L2.St) (O' : Ow), Ev C ρ' n σ' H O' → Same (hid C O H) (hid C O' H) → AgreeOff js σ σ' → Q σ' H
def liftGs (g : Glob) (js : List Nat) (cg : List D → En → Option En) : TGs := fun vs σ H Q => ∃ (C : Ctx) (ρ ρ' : En) (n : Nat) (O : Ow) (ds : List D), C.On g ∧ Ev C ρ n σ H O ∧ IsL C.T (hid C O H) vs ds ∧ cg ds ρ = some ρ' ∧
  ∀ (σ' : L2.St) (O' : Ow), Ev C ρ' n σ' H O' → Same (hid C O H) (hid C O' H) → AgreeOff js σ σ' → Q σ' H
structure PDG (X : Cx) (g : Glob) (js : List Nat) (e : Expr) (cg : CG) : Prop where
  pg : PG X e (liftG g js cg)
structure PDGs (X : Cx) (g : Glob) (js : List Nat) (es : List Expr) (cg : List D → En → Option En) : Prop where
  pgs : PGs X es (liftGs g js cg)
def stN (i : Nat) : CG := fun d ρ => some (ρ.set i (some (Sl.v d)))
def stNil : List D → En → Option En
  | [], ρ => some ρ
  | _, _ => none
def stCons (s : CG) (t : List D → En → Option En) : List D → En → Option En
  | d :: ds, ρ => (s d ρ).bind (t ds)
  | _, _ => none
def stT (t : List D → En → Option En) : CG := fun d ρ => (seqD d).bind fun ds => t ds ρ
theorem AgreeOff.refl (σ : L2.St) : AgreeOff [] σ σ := ⟨rfl, fun _ _ => rfl⟩
theorem AgreeOff.trans {js ks : List Nat} {a b c : L2.St} (h : AgreeOff js a b) (h' : AgreeOff ks b c) : AgreeOff (js ++ ks) a c := ⟨h'.1.trans h.1, fun j n => by
  rw [List.mem_append, not_or] at n
  exact (h'.2 j n.2).trans (h.2 j n.1)⟩
theorem agree_set {σ : L2.St} {i : Nat} {x : Option V} : AgreeOff [i] σ (σ.set i x) := ⟨List.length_set, fun j n => by
  rw [List.mem_singleton] at n
  exact List.getElem?_set_ne (Ne.symm n)⟩
theorem pdg_name {i : Nat} {x : Str} (hN : X.N.Nodup) (hi : X.N[i]? = some x) (hx : Loc X.env.scope x) (hf : X.fn x = true ∨ X.env.scope.names.lookup x = some .local := by first | exact .inl rfl | exact .inr rfl | assumption) : PDG X g [i] (.Name x pos) (stN i) := by
  refine ⟨⟨fun pins s σ H v u Q I r h => ?_⟩⟩
  obtain ⟨C, ρ, ρ', n, O, d, hK, E, iv, e, q⟩ := h
  cases e
  obtain ⟨a, b⟩ := E.set (i := i) iv
  exact (pg_name hN hi hx hf).run pins s σ H v u Q I r (q _ _ a b agree_set)
theorem pdgs_nil : PDGs X g [] [] stNil := by
  refine ⟨⟨fun pins s σ H vs us Q I r h => ?_⟩⟩
  obtain ⟨C, ρ, ρ', n, O, ds, hK, E, iv, e, q⟩ := h
  cases ds with
  | nil =>
    cases e
    cases iv
    exact pgs_nil.run pins s σ H [] us Q I r ⟨rfl, q _ _ E (Same.refl _) (.refl _)⟩
  | cons d ds => cases e
theorem pdgs_cons {js ks : List Nat} {e : Expr} {es : List Expr} {t : CG} {u : List D → En → Option En} (h1 : PDG X g js e t) (h2 : PDGs X g ks es u)
    (hs : (assignEach (e :: es) X.env).map (·.2) = assign e X.env :: (assignEach es X.env).map (·.2) := by rfl) : PDGs X g (js ++ ks) (e :: es) (stCons t u) := by
  refine ⟨⟨fun pins s σ H vs us Q I r h => ?_⟩⟩
  obtain ⟨C, ρ, ρ', n, O, ds, hK, E, iv, e', q⟩ := h
  cases ds with
  | nil => cases e'
  | cons d ds =>
    cases iv with
    | cons a b =>
      replace e' : (t d ρ).bind (u ds) = some ρ' := e'
      cases hd : t d ρ with
      | none => rw [hd] at e'; cases e'
      | some ρ1 =>
        rw [hd] at e'
        exact (pgs_cons h1.pg h2.pgs hs).run pins s σ H _ us Q I r ⟨_, _, rfl, C, ρ, ρ1, n, O, d, hK, E, a, hd, fun σ1 O1 E1 S1 A1 => ⟨C, ρ1, ρ', n, O1, ds, hK, E1, b.same S1, e', fun σ2 O2 E2 S2 A2 => q _ _ E2 (S1.trans S2) (A1.trans A2)⟩⟩
theorem pg_or {e : Expr} {t u : TG} (h1 : PG X e t) (h2 : PG X e u) : PG X e (fun v σ H Q => t v σ H Q ∨ u v σ H Q) :=
  ⟨fun pins s σ H v w Q I r h => h.elim (h1.run pins s σ H v w Q I r) (h2.run pins s σ H v w Q I r)⟩
theorem pdg_tup {js : List Nat} {es : List Expr} {k : Nat} {t : List D → En → Option En} {m : Nat} (hc : X.calm = true) (G : Good X g) (h : PDGs X g js es t) (hl : ∀ ds ρ ρ', t ds ρ = some ρ' → ds.length = m)
    (hn : (assignEach es X.env).length = m := by rfl) (hst : (assignEach es X.env).findIdx? (·.1) = none := by rfl) : PDG X g js (.Tuple es k pos) (stT t) := by
  refine ⟨⟨fun pins s σ H v u Q I r h' => ?_⟩⟩
  obtain ⟨C, ρ, ρ', n, O, d, hK, E, iv, e, q⟩ := h'
  unfold stT at e
  cases hs : seqD d with
  | none => rw [hs] at e; cases e
  | some ds =>
    rw [hs] at e
    obtain ⟨a, us, rfl, r', c⟩ := iv.seq hs
    have l := hl ds ρ ρ' e
    have rest : liftGs g js t us σ H Q := ⟨C, ρ, ρ', n, O, ds, hK, E, r', e, q⟩
    have eK := hK.1.trans G.K
    refine (pg_or (pg_tup hc h.pgs hn hst) (pg_lst hc h.pgs hn hst)).run pins s σ H _ u Q I r ?_
    rcases c with ⟨_, c⟩ | ⟨_, c⟩
    · exact .inr ⟨a, us, rfl, SqL.of (hid_le _ _ c), by rw [r'.length, l], rest⟩
    · exact .inl ⟨a, us, rfl, eK ▸ sqt_same hid_le c, by rw [r'.length, l], rest⟩
theorem stNil_len (ds : List D) (ρ ρ' : En) (h : stNil ds ρ = some ρ') : ds.length = 0 := by
  cases ds with
  | nil => rfl
  | cons => cases h
theorem stCons_len {s : CG} {t : List D → En → Option En} {m : Nat} (ht : ∀ ds ρ ρ', t ds ρ = some ρ' → ds.length = m) (ds : List D) (ρ ρ' : En) (h : stCons s t ds ρ = some ρ') : ds.length = m + 1 := by
  cases ds with
  | nil => cases h
  | cons d ds =>
    replace h : (s d ρ).bind (t ds) = some ρ' := h
    cases hd : s d ρ with
    | none => rw [hd] at h; cases h
    | some ρ1 =>
      rw [hd] at h
      rw [List.length_cons, ht ds ρ1 ρ' h]
end
end RM
namespace RM
open PySem PySem.Spec PyProof.Rows L2 CS RZ
/-! ### a list in the making -/
def out (H : Hp) (a : Addr) : Hp := fun b => if b = a then none else H b
theorem out_same {H : Hp} {a : Addr} : out H a a = none := by unfold out; rw [if_pos rfl]
theorem out_ne {H : Hp} {a b : Addr} (h : b ≠ a) : out H a b = H b := by unfold out; rw [if_neg h]
theorem out_le {H : Hp} {a : Addr} : Same (out H a) H := fun b o h => by
  unfold out at h
  split at h
  · cases h
  · exact h
theorem out_upd {H : Hp} {a : Addr} {o : HO} : out (upd H a o) a = out H a := by
  funext b
  by_cases c : b = a
  · rw [c, out_same, out_same]
  · rw [out_ne c, out_ne c, upd_ne c]
theorem out_new {H : Hp} {a : Addr} {o : HO} (h : H a = none) : out (upd H a o) a = H := by
  funext b
  by_cases c : b = a
  · rw [c, out_same, h]
  · rw [out_ne c, upd_ne c]
/-- one more address is hidden, its object stays -/
def Ctx.plus (C : Ctx) (a : Addr) (o : HO) : Ctx := { C with Z := fun b => C.Z b ∨ b = a, H0 := upd C.H0 a o }
section
variable {C : Ctx} {ρ : En} {n : Nat} {σ : L2.St} {H H' : Hp} {O : Ow} {a : Addr} {o : HO}
theorem hid_plus : hid (C.plus a o) O H = hid C O (out H a) := by
  funext b
  unfold hid
  by_cases c : b = a
  · subst c
    rw [if_pos (.inl (.inr rfl)), out_same]
    split <;> rfl
  · rw [out_ne c]
    by_cases z : C.Z b ∨ ∃ i, O i = some b
    · rw [if_pos z, if_pos]
      rcases z with z | z
      · exact .inl (.inl z)
      · exact .inr z
    · rw [if_neg z, if_neg]
      rintro ((w | w) | w)
      · exact z (.inl w)
      · exact c w
      · exact z (.inr w)
theorem Ev.hide (E : Ev C ρ n σ (out H a) O) (h : H a = some o) (no : ∀ xs, o ≠ HO.tup xs := by intro xs z; cases z) : Ev (C.plus a o) ρ n σ H O := by
  obtain ⟨f1, f2, f3, f4⟩ := E.fresh (p := a) out_same
  have keepO : ∀ i p, O i = some p → p ≠ a := fun i p e z => f2 i (e.trans (congrArg some z))
  refine ⟨E.len, fun i d e => ?_, fun i d e => ?_, fun i p e => ⟨(E.only i p e).1, ?_⟩, E.inj, fun b z => ?_, fun b xs z e => ?_, fun b u e z => ?_, fun b e => ⟨.inl (E.box b e).1, ?_⟩, E.slf, by rw [hid_plus]; exact E.vis⟩
  · rw [hid_plus]
    exact E.val i d e
  · rw [hid_plus]
    obtain ⟨p, h1, h2, h3⟩ := E.own i d e
    exact ⟨p, h1, h2, h3.same (Same.refl _) (out_ne (keepO i p h1)).symm⟩
  · show upd C.H0 a o p = none
    rw [upd_ne (keepO i p e)]
    exact (E.only i p e).2
  · by_cases c : b = a
    · exact ⟨o, by show upd C.H0 a o b = some o; rw [c, upd_same]⟩
    · rcases z with z | z
      · obtain ⟨u, hu⟩ := E.zs b z
        exact ⟨u, by show upd C.H0 a o b = some u; rw [upd_ne c]; exact hu⟩
      · exact absurd z c
  · replace e : upd C.H0 a o b = some (.tup xs) := e
    by_cases c : b = a
    · subst c
      rw [upd_same] at e
      exact no xs (Option.some.inj e)
    · rw [upd_ne c] at e
      rcases z with z | z
      · exact E.zt b xs z e
      · exact c z
  · replace e : upd C.H0 a o b = some u := e
    by_cases c : b = a
    · subst c
      rw [upd_same] at e
      exact h.trans e
    · rw [upd_ne c] at e
      exact (out_ne c).symm.trans (E.keep b u e z)
  · exact (E.box b e).2.same out_le
theorem Ev.unhide (E : Ev (C.plus a o) ρ n σ H O) (hz : ¬ C.Z a) (hb : C.T.bx ≠ some a) (h0 : C.H0 a = none) : Ev C ρ n σ (out H a) O ∧ H a = some o := by
  have ha : H a = some o := E.keep a o (by show upd C.H0 a o a = some o; exact upd_same) hb
  have keepO : ∀ i p, O i = some p → p ≠ a := fun i p e z => by
    have h1 : upd C.H0 a o p = none := (E.only i p e).2
    rw [z, upd_same] at h1
    cases h1
  refine ⟨⟨E.len, fun i d e => ?_, fun i d e => ?_, fun i p e => ⟨(E.only i p e).1, ?_⟩, E.inj, fun b z => ?_, fun b xs z e => ?_, fun b u e z => ?_, fun b e => ⟨?_, ?_⟩, E.slf, by have := E.vis; rw [hid_plus] at this; exact this⟩, ha⟩
  · have := E.val i d e
    rw [hid_plus] at this
    exact this
  · obtain ⟨p, h1, h2, h3⟩ := E.own i d e
    rw [hid_plus] at h3
    exact ⟨p, h1, h2, h3.same (Same.refl _) (out_ne (keepO i p h1))⟩
  · have h1 : upd C.H0 a o p = none := (E.only i p e).2
    rw [upd_ne (keepO i p e)] at h1
    exact h1
  · obtain ⟨u, hu⟩ := E.zs b (.inl z)
    replace hu : upd C.H0 a o b = some u := hu
    have c : b ≠ a := fun q => hz (q ▸ z)
    rw [upd_ne c] at hu
    exact ⟨u, hu⟩
  · have c : b ≠ a := fun q => hz (q ▸ z)
    refine E.zt b xs (.inl z) ?_
    show upd C.H0 a o b = _
    rw [upd_ne c]
    exact e
  · have c : b ≠ a := fun q => by rw [q, h0] at e; cases e
    rw [out_ne c]
    exact E.keep b u (by show upd C.H0 a o b = some u; rw [upd_ne c]; exact e) z
  · have c : b ≠ a := fun q => hb (e.trans (congrArg some q))
    rcases (E.box b e).1 with z | z
    · exact z
    · exact absurd z c
  · have c : b ≠ a := fun q => hb (e.trans (congrArg some q))
    obtain ⟨A, B, F, h1, h2⟩ := (E.box b e).2
    exact ⟨A, B, F, (out_ne c).trans h1, h2⟩
/-! slots forgotten -/
def wipeE (ρ : En) : List Nat → En
  | [] => ρ
  | v :: vs => (wipeE ρ vs).set v none
noncomputable def cutOs (O : Ow) : List Nat → Ow
  | [] => O
  | v :: vs => cutO (cutOs O vs) v
theorem hid_cuts : ∀ vs : List Nat, Same (hid C O H) (hid C (cutOs O vs) H)
  | [] => Same.refl _
  | _ :: vs => (hid_cuts vs).trans hid_cut
theorem Ev.wipes (E : Ev C ρ n σ H O) : ∀ vs : List Nat, Ev C (wipeE ρ vs) n (wipe σ vs) H (cutOs O vs)
  | [] => E
  | v :: vs => (E.wipes vs).wipe1 v
theorem Ev.unwipe {vs : List Nat} (E : Ev C ρ n (wipe σ vs) H O) : Ev C ρ n σ H O where
  len := by rw [E.len, wipe_length]
  val := fun i d e => let ⟨v, h1, h2⟩ := E.val i d e; ⟨v, (wipe_some h1).1, h2⟩
  own := fun i d e => let ⟨p, h1, h2, h3⟩ := E.own i d e; ⟨p, h1, (wipe_some h2).1, h3⟩
  only := E.only
  inj := E.inj
  zs := E.zs
  zt := E.zt
  keep := E.keep
  box := E.box
  slf := E.slf
  vis := E.vis
theorem wipe_get (σ : L2.St) (j : Nat) : ∀ vs : List Nat, (wipe σ vs)[j]? = if j ∈ vs then (σ[j]?).map (fun _ => none) else σ[j]?
  | [] => by simp [wipe]
  | v :: vs => by
    unfold wipe
    by_cases c : v = j
    · subst c
      rw [List.getElem?_set_self']
      rw [wipe_get σ v vs]
      simp only [List.mem_cons, true_or, if_true]
      split
      · cases σ[v]? <;> rfl
      · rfl
    · rw [List.getElem?_set_ne c, wipe_get σ j vs]
      have e : (j ∈ v :: vs) = (j ∈ vs) := by
        rw [List.mem_cons, eq_iff_iff]
        exact ⟨fun h => h.elim (fun z => absurd z.symm c) id, .inr⟩
      simp only [e]
theorem wipe_agree {σ σ' : L2.St} {js vs : List Nat} (h : AgreeOff js σ σ') (hs : ∀ j ∈ js, j ∈ vs) : wipe σ' vs = wipe σ vs := by
  refine List.ext_getElem? fun j => ?_
  rw [wipe_get, wipe_get]
  by_cases c : j ∈ vs
  · rw [if_pos c, if_pos c]
    by_cases l : j < σ.length
    · rw [List.getElem?_eq_getElem l, List.getElem?_eq_getElem (by rw [h.1]; exact l)]
      rfl
    · have hl := h.1
      rw [List.getElem?_eq_none (by omega), List.getElem?_eq_none (by omega)]
  · rw [if_neg c, if_neg c]
    exact h.2 j fun z => c (hs j z)
end
def kF : KE := fun _ _ _ => False
theorem xl_F {C : Ctx} {xk : WX} : XL C xk kF := fun _ _ _ _ _ _ _ _ h => h.elim
structure PDTs (X : Cx) (g : Glob) (xk : WX) (es : List Expr) (td : CT) : Prop where
  pts : PTs X es (liftT g xk td)
def cYes : CT := fun ρ n k _ => k true ρ n
section
variable {X : Cx} {g : Glob} {xk : WX} {pos : Pos}
theorem pdts_nil : PDTs X g xk [] cYes := ⟨⟨fun pins s σ H Q I h => by
  obtain ⟨C, ρ, n, O, k, ke, hK, E, t, x, q⟩ := h
  exact pts_nil.run pins s σ H Q I (q _ _ _ _ _ t E (Same.refl _))⟩⟩
theorem pdts_one {e : Expr} {td : CT} (h : PDT X g xk e td) : PDTs X g xk [e] td := ⟨pts_one h.pt⟩
/-- the turns of a comprehension -/
def cLcL (cg : CG) (tt : CT) (te : CE) (vs : List Nat) : List D → En → Nat → List D → (List D → En → Nat → Prop) → Prop
  | [], ρ, n, acc, k => k acc ρ n
  | d :: ds, ρ, n, acc, k => ∃ ρ1, cg d ρ = some ρ1 ∧ tt ρ1 n (fun b ρ2 n2 => if b = true then te ρ2 n2 (fun y ρ3 n3 => acc.length < lim ∧ cLcL cg tt te vs ds (wipeE ρ3 vs) n3 (acc ++ [y]) k) kF
      else cLcL cg tt te vs ds (wipeE ρ2 vs) n2 acc k) kF
def cLc (ci : CA) (cg : CG) (tt : CT) (te : CE) (vs : List Nat) : CE := fun ρ n k ke => ci ρ n (fun ds ρ' n' => cLcL cg tt te vs ds (wipeE ρ' vs) n' [] (fun acc ρ2 n2 => k (.list acc) ρ2 n2)) ke
theorem lc_use {ci : CA} {cg : CG} {js vs : List Nat} {tt : CT} {te : CE} (hj : ∀ j ∈ js, j ∈ vs) {σ : L2.St} {H : Hp} {Q : VK} (r : liftF g xk (cLc ci cg tt te vs) σ H Q) : tLc (liftI g xk ci) (liftG g js cg) (liftT g xF tt) (lift g xF te) vs σ H Q := by
  obtain ⟨C, ρ, n, O, k, ke, hK, E, t, x, q⟩ := r
  refine ⟨C, ρ, n, O, _, ke, hK, E, t, x, fun ds ρ1 n1 J H1 O1 k1 E1 S1 WD => ?_⟩
  intro Da nD
  obtain ⟨f1, f2, f3, f4⟩ := E1.fresh nD
  obtain ⟨Gd, Y, WK, hG, hY⟩ := WD.ex
  refine lc_it WK (fun i H => ∃ (ρ : En) (n : Nat) (O : Ow) (acc : List D) (accV : List V), Ev C ρ n (wipe σ vs) (out H Da) O ∧ H Da = some (.lst accV) ∧ IsL C.T (hid C O (out H Da)) accV acc ∧
    cLcL cg tt te vs (ds.drop i) ρ n acc (fun acc ρ2 n2 => k (.list acc) ρ2 n2) ∧ Same (hid C O1 H1) (hid C O (out H Da))) ?_ ?_ ?_ ?_
  · refine ⟨_, n1, _, [], [], (by rw [out_new nD]; exact E1.wipes vs), upd_same, .nil, k1, ?_⟩
    rw [out_new nD]
    exact hid_cuts vs
  · rintro i H2 _ ⟨ρ2, n2, O2, acc, accV, E2, eD, iA, c2, S2⟩
    exact hG _ ((S2.trans hid_le).trans out_le)
  · rintro i x0 H2 H3 hi' ⟨ρ2, n2, O2, acc, accV, E2, eD, iA, c2, S2⟩ y
    have hd : ds.drop i = ds[i] :: ds.drop (i + 1) := List.drop_eq_getElem_cons hi'
    rw [hd] at c2
    obtain ⟨ρ3, e3, c3⟩ := c2
    have S2' : Same (hid C O1 H1) H2 := (S2.trans hid_le).trans out_le
    obtain ⟨sY, iY⟩ := hY i x0 H2 H3 ds[i] S2' y (List.getElem?_eq_getElem hi')
    have E4 := E2.hide eD
    have E5 := E4.ext sY
    have h45 := hid_same (C := C.plus Da (.lst accV)) (O := O2) sY
    have S6 : Same (hid C O1 H1) (hid (C.plus Da (.lst accV)) O2 H3) := by
      refine Same.trans ?_ h45
      rw [hid_plus]
      exact S2
    have ix : Is C.T (hid (C.plus Da (.lst accV)) O2 H3) x0 ds[i] := iY _ S6 fun b u h1 h2 => let ⟨g1, g2, _, _⟩ := E4.fresh h2; hid_of h1 g1 g2
    refine ⟨C.plus Da (.lst accV), ρ2, ρ3, n2, O2, ds[i], hK, E5, ix, e3, fun σ4 O4 E6 S7 A4 => ⟨wipe_agree (σ := wipe σ vs) A4 hj |>.trans (by
      refine List.ext_getElem? fun j => ?_
      rw [wipe_get, wipe_get]
      split
      · cases σ[j]? <;> rfl
      · rfl), ?_⟩⟩
    have wp : wipe σ4 vs = wipe σ vs := wipe_agree (σ := wipe σ vs) A4 hj |>.trans (by
      refine List.ext_getElem? fun j => ?_
      rw [wipe_get, wipe_get]
      split
      · cases σ[j]? <;> rfl
      · rfl)
    refine ⟨C.plus Da (.lst accV), ρ3, n2, O4, _, kF, hK, E6, c3, xl_F, fun b ρ5 n5 H5 O5 c5 E7 S8 => ?_⟩
    cases b with
    | false =>
      show ∃ _, _
      obtain ⟨E8, eD8⟩ := E7.unhide f1 f4 f3
      have E9 := E8.wipes vs
      rw [wp] at E9
      have S10 := ((S6.trans S7).trans S8)
      rw [hid_plus] at S10
      have iA2 : IsL C.T (hid C O5 (out H5 Da)) accV acc := iA.same (by
        have := (h45.trans S7).trans S8
        rw [hid_plus, hid_plus] at this
        exact this)
      exact ⟨_, _, _, acc, accV, E9, eD8, iA2.same (hid_cuts vs), c5, S10.trans (hid_cuts vs)⟩
    | true =>
      refine ⟨C.plus Da (.lst accV), ρ5, n5, O5, _, kF, hK, E7, c5, xl_F, fun yd ρ6 n6 yv H6 O6 c6 E8 S9 iy => ?_⟩
      obtain ⟨E9, eD9⟩ := E8.unhide f1 f4 f3
      refine ⟨accV, eD9, by rw [iA.length]; exact lim_lt c6.1, ?_⟩
      have E10 := E9.wipes vs
      rw [wp] at E10
      have S10 := (((S6.trans S7).trans S8).trans S9)
      rw [hid_plus] at S10 iy
      have iA2 : IsL C.T (hid C O6 (out H6 Da)) accV acc := iA.same (by
        have := ((h45.trans S7).trans S8).trans S9
        rw [hid_plus, hid_plus] at this
        exact this)
      refine ⟨_, _, cutOs O6 vs, acc ++ [yd], accV ++ [yv], ?_, upd_same, ?_, c6.2, ?_⟩
      · rw [out_upd]
        exact E10
      · rw [out_upd]
        exact (iA2.append (.cons iy .nil)).same (hid_cuts vs)
      · rw [out_upd]
        exact S10.trans (hid_cuts vs)
  · rintro H2 ⟨ρ2, n2, O2, acc, accV, E2, eD, iA, c2, S2⟩
    rw [List.drop_length] at c2
    exact q _ _ _ _ _ _ _ c2 E2.unwipe (S1.trans S2) out_same out_le (.lst eD iA) rfl
theorem pf_lc {elt tg iter : Expr} {ifs : List Expr} {scope : Scope} {own : List (Str × Nat)} {ci : CA} {cg : CG} {js : List Nat} {tt : CT} {te : CE} (hc : X.calm = true) (hN : X.N.Nodup) (hi : PDI X g xk tg iter ci) (ok : BlkOk X.N X.env.scope scope own)
    (hg : ∀ (s : Shared) (H : Hp) (C : Addr) (cl : List (Str × Addr)) (fp : List Addr), PDG (X.blk s H scope (compEnvC scope cl C X.env) fp) g js tg cg) (ht : ∀ (s : Shared) (H : Hp) (C : Addr) (cl : List (Str × Addr)) (fp : List Addr), PDTs (X.blk s H scope (compEnvC scope cl C X.env) fp) g xF ifs tt)
    (he : ∀ (s : Shared) (H : Hp) (C : Addr) (cl : List (Str × Addr)) (fp : List Addr), PD (X.blk s H scope (compEnvC scope cl C X.env) fp) g xF elt te) (hj : ∀ j ∈ js, j ∈ own.map (·.2) := by decide) (hs : ∀ x, foldedSetIterable iter X.env x = pure x := by intro _; rfl) :
    PDF X g xk (.ListComp elt [⟨tg, iter, ifs, 0⟩] scope pos) (cLc ci cg tt te (own.map (·.2))) :=
  ⟨PE.imp (pe_lc hc hN hi.pi ok (fun s H C cl fp => (hg s H C cl fp).pg) (fun s H C cl fp => (ht s H C cl fp).pts) (fun s H C cl fp => (he s H C cl fp).pe) hs) fun σ H Q r => lc_use hj r⟩
end
end RM
namespace RM
open PySem PySem.Spec PyProof.Rows L2 CS RZ
/-! ### statements -/
structure EndsD where
  nx : En → Nat → Prop
  rt : D → Nat → Prop
  bk : En → Nat → Prop
  ct : En → Nat → Prop
  xc : KE
abbrev CS := En → Nat → EndsD → Prop
/-- a def is left: what was there is kept, the box is at its count -/
structure Fin (C : Ctx) (n : Nat) (H : Hp) : Prop where
  keep : ∀ a o, C.H0 a = some o → C.T.bx ≠ some a → H a = some o
  box : ∀ b, C.T.bx = some b → BoxAt H b n
theorem Ev.fin {C : Ctx} {ρ : En} {n : Nat} {σ : L2.St} {H : Hp} {O : Ow} (E : Ev C ρ n σ H O) : Fin C n H := ⟨E.keep, fun b h => (E.box b h).2⟩
theorem hid_now {C : Ctx} {H : Hp} {O : Ow} : Same (hid C O H) (hid C now H) := fun a o h => by
  obtain ⟨h1, h2, _⟩ := hid_some h
  exact hid_of h1 h2 fun i z => nomatch z
structure LinkS (C : Ctx) (xk : WX) (e : EndsD) (Hb : Hp) (F : Ends) : Prop where
  nx : ∀ (ρ : En) (n : Nat) (σ : L2.St) (H : Hp) (O : Ow), e.nx ρ n → Ev C ρ n σ H O → Same Hb (hid C O H) → F.nx σ H
  rt : ∀ (d : D) (n : Nat) (v : V) (H : Hp), e.rt d n → Fin C n H → Is C.T (hid C now H) v d → F.rt v H
  bk : ∀ (ρ : En) (n : Nat) (σ : L2.St) (H : Hp) (O : Ow), e.bk ρ n → Ev C ρ n σ H O → Same Hb (hid C O H) → F.bk σ H
  ct : ∀ (ρ : En) (n : Nat) (σ : L2.St) (H : Hp) (O : Ow), e.ct ρ n → Ev C ρ n σ H O → Same Hb (hid C O H) → F.ct σ H
  xc : XL C xk e.xc
theorem LinkS.mono {C : Ctx} {xk : WX} {e : EndsD} {Hb Hb' : Hp} {F : Ends} (l : LinkS C xk e Hb F) (s : Same Hb Hb') : LinkS C xk e Hb' F :=
  ⟨fun ρ n σ H O a b c => l.nx ρ n σ H O a b (s.trans c), l.rt, fun ρ n σ H O a b c => l.bk ρ n σ H O a b (s.trans c), fun ρ n σ H O a b c => l.ct ρ n σ H O a b (s.trans c), l.xc⟩
def liftS (g : Glob) (xk : WX) (cs : CS) : TS := fun F σ H => ∃ (C : Ctx) (ρ : En) (n : Nat) (O : Ow) (e : EndsD), C.On g ∧ Ev C ρ n σ H O ∧ cs ρ n e ∧ LinkS C xk e (hid C O H) F
structure PDS (X : Cx) (g : Glob) (xk : WX) (st : Stmt) (cs : CS) : Prop where
  ps : PS X st (liftS g xk cs)
structure PDSs (X : Cx) (g : Glob) (xk : WX) (st : List Stmt) (cs : CS) : Prop where
  pss : PSs X st (liftS g xk cs)
theorem ps_imp {X : Cx} {e : Stmt} {t t' : TS} (h : PS X e t) (q : ∀ D σ H, t' D σ H → t D σ H) : PS X e t' := ⟨fun pins s σ H D I r => h.run pins s σ H D I (q _ _ _ r)⟩
theorem pss_imp {X : Cx} {e : List Stmt} {t t' : TS} (h : PSs X e t) (q : ∀ D σ H, t' D σ H → t D σ H) : PSs X e t' := ⟨fun pins s σ H D I r => h.run pins s σ H D I (q _ _ _ r)⟩
def cNext : CS := fun ρ n e => e.nx ρ n
def cSq (a b : CS) : CS := fun ρ n e => a ρ n { e with nx := fun ρ' n' => b ρ' n' e }
def cDrop (t : CE) : CS := fun ρ n e => t ρ n (fun _ ρ' n' => e.nx ρ' n') e.xc
def cRet (t : CE) : CS := fun ρ n e => t ρ n (fun d _ n' => e.rt d n') e.xc
def cSet (i : Nat) (t : CE) : CS := fun ρ n e => t ρ n (fun d ρ' n' => e.nx (ρ'.set i (some (Sl.v d))) n') e.xc
def cOwn (i : Nat) (t : CE) : CS := fun ρ n e => t ρ n (fun d ρ' n' => i < ρ'.length ∧ e.nx (ρ'.set i (some (Sl.own d))) n') e.xc
def cAsg (cg : CG) (t : CE) : CS := fun ρ n e => t ρ n (fun d ρ' n' => ∃ ρ2, cg d ρ' = some ρ2 ∧ e.nx ρ2 n') e.xc
def cIfS (c : CT) (a b : CS) : CS := fun ρ n e => c ρ n (fun t ρ' n' => if t = true then a ρ' n' e else b ρ' n' e) e.xc
def cForL (cg : CG) (body : CS) : List D → En → Nat → EndsD → Prop
  | [], ρ, n, e => e.nx ρ n
  | d :: ds, ρ, n, e => ∃ ρ1, cg d ρ = some ρ1 ∧ body ρ1 n { e with nx := fun ρ' n' => cForL cg body ds ρ' n' e, ct := fun ρ' n' => cForL cg body ds ρ' n' e, bk := e.nx }
def cFor (ci : CA) (cg : CG) (body : CS) : CS := fun ρ n e => ci ρ n (fun ds ρ' n' => cForL cg body ds ρ' n' e) e.xc
section
variable {X : Cx} {g : Glob} {xk : WX} {pos : Pos}
theorem pdss_nil : PDSs X g xk [] cNext := ⟨pss_imp pss_nil fun D σ H ⟨C, ρ, n, O, e, hK, E, t, l⟩ => l.nx _ _ _ _ _ t E (Same.refl _)⟩
theorem pdss_cons {st : Stmt} {rest : List Stmt} {a b : CS} (h1 : PDS X g xk st a) (h2 : PDSs X g xk rest b) : PDSs X g xk (st :: rest) (cSq a b) :=
  ⟨pss_imp (pss_cons h1.ps h2.pss) fun D σ H ⟨C, ρ, n, O, e, hK, E, t, l⟩ => ⟨C, ρ, n, O, _, hK, E, t, ⟨fun ρ' n' σ' H' O' x E' S => ⟨C, ρ', n', O', e, hK, E', x, l.mono S⟩, l.rt, l.bk, l.ct, l.xc⟩⟩⟩
theorem pdss_one {st : Stmt} {a : CS} (h1 : PDS X g xk st a) : PDSs X g xk [st] a := ⟨pss_one h1.ps⟩
theorem pds_expr {e : Expr} {t : CE} (he : PD X g xk e t) (hs : swapsWith e none pos.line X.env = pure false := by rfl) : PDS X g xk (.Expr e pos) (cDrop t) :=
  ⟨ps_imp (ps_expr he.pe hs) fun D σ H ⟨C, ρ, n, O, e, hK, E, t, l⟩ => ⟨C, ρ, n, O, _, _, hK, E, t, l.xc, fun d ρ' n' v H' O' x E' S i => l.nx _ _ _ _ _ x E' S⟩⟩
theorem pds_ret {e : Expr} {t : CE} (he : PD X g xk e t) : PDS X g xk (.Return (some e) pos) (cRet t) :=
  ⟨ps_imp (ps_ret he.pe) fun D σ H ⟨C, ρ, n, O, e, hK, E, t, l⟩ => ⟨C, ρ, n, O, _, _, hK, E, t, l.xc, fun d ρ' n' v H' O' x E' S i => l.rt _ _ _ _ x E'.fin (i.same hid_now)⟩⟩
theorem set_use {t : CE} {i : Nat} {D : Ends} {σ : L2.St} {H : Hp} (h : liftS g xk (cSet i t) D σ H) : tAsg (lift g xk t) (gName i) D σ H := by
  obtain ⟨C, ρ, n, O, e, hK, E, t, l⟩ := h
  refine ⟨C, ρ, n, O, _, _, hK, E, t, l.xc, fun d ρ' n' v H' O' x E' S iv => ?_⟩
  obtain ⟨a, b⟩ := E'.set (i := i) iv
  exact l.nx _ _ _ _ _ x a (S.trans b)
theorem own_use {t : CE} {i : Nat} {D : Ends} {σ : L2.St} {H : Hp} (h : liftS g xk (cOwn i t) D σ H) : tAsg (liftF g xk t) (gName i) D σ H := by
  obtain ⟨C, ρ, n, O, e, hK, E, t, l⟩ := h
  refine ⟨C, ρ, n, O, _, _, hK, E, t, l.xc, fun d ρ' n' p H1 H' O' x E' S hp s ow no => ?_⟩
  obtain ⟨a, b⟩ := E'.setOwn (i := i) x.1 hp s ow no
  exact l.nx _ _ _ _ _ x.2 a (S.trans b)
theorem pds_set {i : Nat} {x : Str} {e : Expr} {t : CE} {pos' : Pos} (hN : X.N.Nodup) (hi : X.N[i]? = some x) (hx : Loc X.env.scope x) (he : PD X g xk e t) (hs : swapsWith e (some (.Name x pos')) pos.line X.env = pure false := by rfl)
    (hf : X.fn x = true ∨ X.env.scope.names.lookup x = some .local := by first | exact .inl rfl | exact .inr rfl | assumption) : PDS X g xk (.Assign [.Name x pos'] e pos) (cSet i t) :=
  ⟨ps_imp (ps_set hN hi hx he.pe hs hf) fun D σ H h => set_use h⟩
theorem pds_own {i : Nat} {x : Str} {e : Expr} {t : CE} {pos' : Pos} (hN : X.N.Nodup) (hi : X.N[i]? = some x) (hx : Loc X.env.scope x) (he : PDF X g xk e t) (hs : swapsWith e (some (.Name x pos')) pos.line X.env = pure false := by rfl)
    (hf : X.fn x = true ∨ X.env.scope.names.lookup x = some .local := by first | exact .inl rfl | exact .inr rfl | assumption) : PDS X g xk (.Assign [.Name x pos'] e pos) (cOwn i t) :=
  ⟨ps_imp (ps_set hN hi hx he.pe hs hf) fun D σ H h => own_use h⟩
theorem pds_ownLc {i : Nat} {y : Str} {py : Pos} {elt tg iter : Expr} {ifs : List Expr} {scope : Scope} {own : List (Str × Nat)} {pos spos : Pos} {ci : CA} {cg : CG} {js : List Nat} {tt : CT} {te : CE} (hc : X.calm = true) (hN : X.N.Nodup) (hy : X.N[i]? = some y) (hyl : X.env.scope.names.lookup y = some .local)
    (hi : PDI X g xk tg iter ci) (ok : BlkOk X.N X.env.scope scope own)
    (hg : ∀ (s : Shared) (H : Hp) (C : Addr) (cl : List (Str × Addr)) (fp : List Addr), PDG (X.blk s H scope (compEnvC scope cl C X.env) fp) g js tg cg) (ht : ∀ (s : Shared) (H : Hp) (C : Addr) (cl : List (Str × Addr)) (fp : List Addr), PDTs (X.blk s H scope (compEnvC scope cl C X.env) fp) g xF ifs tt)
    (he : ∀ (s : Shared) (H : Hp) (C : Addr) (cl : List (Str × Addr)) (fp : List Addr), PD (X.blk s H scope (compEnvC scope cl C X.env) fp) g xF elt te)
    (hsw : swapsWith (.ListComp elt [⟨tg, iter, ifs, 0⟩] scope pos) (some (.Name y py)) spos.line X.env = pure true := by rfl) (hj : ∀ j ∈ js, j ∈ own.map (·.2) := by decide) (hs : ∀ x, foldedSetIterable iter X.env x = pure x := by intro _; rfl) :
    PDS X g xk (.Assign [.Name y py] (.ListComp elt [⟨tg, iter, ifs, 0⟩] scope pos) spos) (cOwn i (cLc ci cg tt te (own.map (·.2)))) :=
  ⟨ps_imp (ps_setLc hc hN hy hyl hsw hi.pi ok (fun s H C cl fp => (hg s H C cl fp).pg) (fun s H C cl fp => (ht s H C cl fp).pts) (fun s H C cl fp => (he s H C cl fp).pe) hs) fun D σ H h => lc_use hj (own_use h)⟩
theorem pds_asg {tg e : Expr} {t : CE} {cg : CG} {js : List Nat} (he : PD X g xk e t) (hg : PDG X g js tg cg) (hs : swapsWithSole [tg] e pos.line X.env = pure false := by rfl) (hw : swappedStores [tg] e X.env = pure none := by rfl)
    (h1 : (assignEach [tg] X.env).map (·.2) = [assign tg X.env] := by rfl) : PDS X g xk (.Assign [tg] e pos) (cAsg cg t) :=
  ⟨ps_imp (ps_asg he.pe hg.pg hs hw h1) fun D σ H ⟨C, ρ, n, O, e, hK, E, t, l⟩ => ⟨C, ρ, n, O, _, _, hK, E, t, l.xc, fun d ρ' n' v H' O' x E' S i => let ⟨ρ2, h2, x⟩ := x; ⟨C, ρ', ρ2, n', O', d, hK, E', i, h2, fun σ2 O2 E2 S2 _ => l.nx _ _ _ _ _ x E2 (S.trans S2)⟩⟩⟩
theorem pds_if {c : Expr} {p q : List Stmt} {tc : CT} {a b : CS} (hc : PDT X g xk c tc) (ha : PDSs X g xk p a) (hb : PDSs X g xk q b) : PDS X g xk (.If c p q pos) (cIfS tc a b) := by
  refine ⟨ps_imp (ps_if hc.pt ha.pss hb.pss) fun D σ H h => ?_⟩
  obtain ⟨C, ρ, n, O, e, hK, E, t, l⟩ := h
  refine ⟨C, ρ, n, O, _, _, hK, E, t, l.xc, fun b ρ' n' H' O' x E' S => ?_⟩
  cases b with
  | true => exact ⟨C, ρ', n', O', e, hK, E', x, l.mono S⟩
  | false => exact ⟨C, ρ', n', O', e, hK, E', x, l.mono S⟩
theorem pds_for {tg iter : Expr} {body : List Stmt} {ci : CA} {cg : CG} {js : List Nat} {cb : CS} (hp : PassesOwn (model X.prog X.w) X.A X.env X.xe) (hc : X.calm = true) (hi : PDI X g xk tg iter ci) (hg : PDG X g js tg cg) (hb : PDSs X g xk body cb)
    (hs : ∀ x, foldedSetIterable iter X.env x = pure x := by intro _; rfl) : PDS X g xk (.For tg iter body [] pos) (cFor ci cg cb) := by
  refine ⟨ps_imp (ps_for hp hc hi.pi hg.pg hb.pss hs) fun D σ H h => ?_⟩
  obtain ⟨C, ρ, n, O, e, hK, E, t, l⟩ := h
  refine ⟨C, ρ, n, O, _, _, hK, E, t, l.xc, fun ds ρ1 n1 J H1 O1 k1 E1 S1 WD => ?_⟩
  obtain ⟨Gd, Y, WK, hG, hY⟩ := WD.ex
  refine for_it WK (fun i σ H => ∃ (ρ : En) (n : Nat) (O : Ow), Ev C ρ n σ H O ∧ cForL cg cb (ds.drop i) ρ n e ∧ Same (hid C O1 H1) (hid C O H)) ⟨ρ1, n1, O1, E1, k1, Same.refl _⟩ ?_ ?_ ?_
  · rintro i σ2 H2 _ ⟨ρ2, n2, O2, E2, c2, S2⟩
    exact hG _ (S2.trans hid_le)
  · rintro i x0 σ2 H2 H3 hi' ⟨ρ2, n2, O2, E2, c2, S2⟩ y
    have hd : ds.drop i = ds[i] :: ds.drop (i + 1) := List.drop_eq_getElem_cons hi'
    rw [hd] at c2
    obtain ⟨ρ3, e3, c3⟩ := c2
    obtain ⟨sY, iY⟩ := hY i x0 H2 H3 ds[i] (S2.trans hid_le) y (List.getElem?_eq_getElem hi')
    have E5 := E2.ext sY
    have S6 : Same (hid C O1 H1) (hid C O2 H3) := S2.trans (hid_same sY)
    have ix : Is C.T (hid C O2 H3) x0 ds[i] := iY _ S6 fun b u h1 h2 => let ⟨g1, g2, _, _⟩ := E2.fresh h2; hid_of h1 g1 g2
    refine ⟨C, ρ2, ρ3, n2, O2, ds[i], hK, E5, ix, e3, fun σ4 O4 E6 S7 A4 => ?_⟩
    refine ⟨C, ρ3, n2, O4, _, hK, E6, c3, ⟨fun ρ5 n5 σ5 H5 O5 x E7 S8 => ⟨ρ5, n5, O5, E7, x, (S6.trans S7).trans S8⟩, l.rt, fun ρ5 n5 σ5 H5 O5 x E7 S8 => l.nx _ _ _ _ _ x E7 (((S1.trans S6).trans S7).trans S8), fun ρ5 n5 σ5 H5 O5 x E7 S8 => ⟨ρ5, n5, O5, E7, x, (S6.trans S7).trans S8⟩, l.xc⟩⟩
  · rintro σ2 H2 ⟨ρ2, n2, O2, E2, c2, S2⟩
    rw [List.drop_length] at c2
    exact l.nx _ _ _ _ _ c2 E2 (S1.trans S2)
end
end RM
namespace RM
open PySem PySem.Spec PyProof.Rows L2 CS RZ
/-! ### defs and calls -/
abbrev SpD := List D → Nat → (D → Nat → Prop) → (Xv → Nat → Prop) → Prop
def spD (g : Glob) (sd : SpD) : Sp := fun vs H Q E => ∃ (C : Ctx) (ds : List D) (n : Nat) (k : D → Nat → Prop) (ke : Xv → Nat → Prop), C.On g ∧ C.H0 = H ∧ Ev C [] n [] H now ∧ IsL C.T (hid C now H) vs ds ∧ sd ds n k ke ∧
  (∀ (d : D) (n' : Nat) (v : V) (H' : Hp), k d n' → Fin C n' H' → Is C.T (hid C now H') v d → Q v H') ∧
  ∀ (c : Nat) (fs : List (D × D)) (n' : Nat) (dd : Option Addr) (H' : Hp), ke (c, fs) n' → Fin C n' H' → XIs C.T (hid C now H') dd fs → E (.ref (C.T.cls c)) dd H'
def startE (N : List Str) (ds : List D) : En := ds.map (fun d => some (Sl.v d)) ++ List.replicate (N.length - ds.length) none
section
variable {X : Cx} {g : Glob} {xk : WX} {pos : Pos} {C : Ctx} {ρ : En} {n : Nat} {σ : L2.St} {H H' : Hp} {O : Ow}
theorem startE_get {N : List Str} {ds : List D} {i : Nat} {d : D} (h : (startE N ds)[i]? = some (some (Sl.v d))) : ds[i]? = some d := by
  unfold startE at h
  by_cases c : i < ds.length
  · rw [List.getElem?_append_left (by rw [List.length_map]; exact c), List.getElem?_map] at h
    rw [List.getElem?_eq_getElem c] at h ⊢
    cases h
    rfl
  · rw [List.getElem?_append_right (by rw [List.length_map]; omega), List.getElem?_replicate] at h
    split at h <;> cases h
theorem startE_own {N : List Str} {ds : List D} {i : Nat} {d : D} (h : (startE N ds)[i]? = some (some (Sl.own d))) : False := by
  unfold startE at h
  by_cases c : i < ds.length
  · rw [List.getElem?_append_left (by rw [List.length_map]; exact c), List.getElem?_map] at h
    rw [List.getElem?_eq_getElem c] at h
    cases h
  · rw [List.getElem?_append_right (by rw [List.length_map]; omega), List.getElem?_replicate] at h
    split at h <;> cases h
theorem ev_start {N : List Str} {vs : List V} {ds : List D} (E : Ev C [] n [] H now) (i : IsL C.T (hid C now H) vs ds) : Ev C (startE N ds) n (start N vs) H now := by
  refine ⟨?_, fun j d h => ?_, fun j d h => (startE_own h).elim, fun j p h => (by cases h), fun j k p h => (by cases h), E.zs, E.zt, E.keep, E.box, fun p hp j q d h => (by cases h), E.vis⟩
  · unfold startE L2.start
    rw [List.length_append, List.length_append, List.length_map, List.length_map, List.length_replicate, List.length_replicate, i.length]
  · obtain ⟨v, h1, h2⟩ := i.get (startE_get h)
    refine ⟨v, ?_, h2⟩
    unfold L2.start
    rw [List.getElem?_append_left (by rw [List.length_map]; exact lt_of_get h1), List.getElem?_map, h1]
    rfl
/-- the end of a call, sorted by what it gives back -/
theorem cr_out {CX : CXT} {P : Program} {w : World} {outer : List Env} {s : Shared} {Q : VK} {E : XK} {R : Result → Shared → Prop} (he : ∀ e s', CX outer H s E e s' → R (.error e) s') (hv : ∀ u s', L2.CE outer P w H s Q u s' → R (.ok (.ret u)) s') : ∀ r s', CR CX outer P w H s Q E r s' → R r s'
  | .error e, s', h => he e s' h
  | .ok (.ret u), s', h => hv u s' h
  | .ok .next, _, h => h.elim
  | .ok .brk, _, h => h.elim
  | .ok .cont, _, h => h.elim
theorem fn_go {CX : CXT} {P : Program} {w : World} {K : PySem.W.Frag} {mg : Str → Option Value} {base : Heap} {outer : List Env} {A : Around} {s : Shared} {k : Nat} {f : Addr} {fd : FuncData} {ps : List Str} {sp : Sp} {us ds : List Value} {vs : List V} {Q : VK} {E : XK} {R : Result → Shared → Prop} (F : FnOk P w K mg base CX k f fd ps sp) (hr : Room k A) (e0 : Env0 P w K mg base A outer s H) (X : K.In s.heap)
    (hb : Binds K fd ps ds) (rv : Vals vs (us ++ ds)) (q : sp vs H Q E) (he : ∀ e s', CX outer H s E e s' → R (.error e) s') (hv : ∀ u s', L2.CE outer P w H s Q u s' → R (.ok (.ret u)) s') : codeAny (model P w) A (.call (.ref f) ⟨us, []⟩) R s :=
  codeAny_mono (F.run A outer s H ⟨us, []⟩ (us ++ ds) vs Q E hr e0 (hb s us X (rv.length.symm.trans (F.len _ _ _ _ q))) rv q) (cr_out he hv)
/-- a caller's slots are out of the callee's sight -/
def Ctx.sub (C : Ctx) (O : Ow) (H : Hp) : Ctx := { C with Z := fun a => C.Z a ∨ ∃ i, O i = some a, H0 := H, B := fun _ => none }
theorem hid_sub : hid (C.sub O H) now H' = hid C O H' := by
  funext a
  unfold hid
  by_cases c : C.Z a ∨ ∃ i, O i = some a
  · rw [if_pos c, if_pos (.inl c)]
  · rw [if_neg c, if_neg]
    rintro (z | ⟨i, z⟩)
    · exact c z
    · cases z
theorem ev_sub (E : Ev C ρ n σ H O) : Ev (C.sub O H) [] n [] H now := by
  refine ⟨rfl, fun i d h => by simp at h, fun i d h => by simp at h, fun i p h => (by cases h), fun i j p h => (by cases h), fun a z => ?_, fun a xs z e => ?_, fun a o h _ => h, fun b h => ⟨.inl (E.box b h).1, (E.box b h).2⟩, fun p hp j q d h => (by cases h), fun a o h => (by cases h)⟩
  rcases z with z | ⟨i, z⟩
  · obtain ⟨o, ho⟩ := E.zs a z
    by_cases c : C.T.bx = some a
    · obtain ⟨A, B, F, e, _⟩ := (E.box a c).2
      exact ⟨_, e⟩
    · exact ⟨o, E.keep a o ho c⟩
  · obtain ⟨⟨d, e⟩, _⟩ := E.only i a z
    obtain ⟨p, h1, _, h3⟩ := E.own i d e
    rw [z] at h1
    cases h1
    exact h3.some
  · replace e : H a = some (.tup xs) := e
    have := E.tup e
    obtain ⟨_, h2, h3⟩ := hid_some this
    rcases z with z | ⟨i, z⟩
    · exact h2 z
    · exact h3 i z
theorem ev_back {n' : Nat} (E : Ev C ρ n σ H O) (F : Fin (C.sub O H) n' H') : Ev C ρ n' σ H' O ∧ Same (hid C O H) (hid C O H') :=
  ⟨E.extB (fun a o h z => F.keep a o h z) F.box, E.hidKb fun a o h z => F.keep a o h z⟩
def cCall (sd : SpD) (ta : CA) : CE := fun ρ n k ke => ta ρ n (fun ds ρ' n' => sd ds n' (fun d n2 => k d ρ' n2) (fun x n2 => ke x ρ' n2)) ke
/-- the promise of the callee, from a caller's reading -/
theorem spD_use {sd : SpD} {ds : List D} {vs : List V} {k : D → Nat → Prop} {ke : KE} {Q : VK} (hK : C.On g) (E : Ev C ρ n σ H O) (x : XL C xk ke) (i : IsL C.T (hid C O H) vs ds) (s : sd ds n k (fun y n2 => ke y ρ n2))
    (q : ∀ (d : D) (n' : Nat) (v : V) (H' : Hp), k d n' → Ev C ρ n' σ H' O → Same (hid C O H) (hid C O H') → Is C.T (hid C O H') v d → Q v H') : spD g sd vs H Q (WE xk σ) := by
  refine ⟨C.sub O H, ds, n, k, fun y n2 => ke y ρ n2, hK, rfl, ev_sub E, by rw [hid_sub]; exact i, s, fun d n' v H' a F b => ?_, fun c fs n' dd H' a F b => ?_⟩
  · obtain ⟨e1, e2⟩ := ev_back E F
    rw [hid_sub] at b
    exact q d n' v H' a e1 e2 b
  · obtain ⟨e1, e2⟩ := ev_back E F
    rw [hid_sub] at b
    exact x c fs ρ n' σ H' O dd a e1 b
theorem pa0 {X : Cx} {σ : L2.St} {E : XK} : PassesAt CX0 X σ E := fun _ _ _ _ _ _ h => h.elim
theorem paF {X : Cx} (σ : L2.St) : PassesAt (L2.CX X.prog X.w) X σ (WE xF σ) := L2.passAt takes0 σ
theorem pd_call {CX : CXT} {sd : SpD} {k : Nat} {f : Addr} {fd : FuncData} {ps : List Str} {x : Str} {p : Pos} {e : Expr} {es : List Expr} {ta : CA} (F : FnOk X.prog X.w X.K X.mg X.base CX k f fd ps (spD g sd)) (hr : Room k X.A) (hg : Gl X x) (hm : X.mg x = some (.ref f)) (hk : PySem.W.keepIn X.K (.ref f) = true) (hb : Binds X.K fd ps [])
    (hx : ∀ σ, PassesAt CX X σ (WE xk σ)) (ha : PDA X g xk (e :: es) ta) (hdb : (x == ("__debug__" : Str)) = false := by decide) (he : starEach (e :: es) X.env = (false, eval e X.env) :: starEach es X.env := by rfl) (hpl : (backTo pos (starEach es X.env)).any (·.1) = false := by rfl) :
    PD X g xk (.Call (.Name x p) (e :: es) [] pos) (cCall sd ta) :=
  ⟨PE.imp (pe_callS F hr hg hm hk hb hx ha.pa hdb he hpl) fun σ H Q ⟨C, ρ, n, O, k, ke, hK, E, t, x, q⟩ => ⟨C, ρ, n, O, _, ke, hK, E, t, x, fun ds ρ1 n1 vs H1 O1 k1 E1 S1 i1 =>
    spD_use hK E1 x i1 k1 fun d n' v H' a b c i => q _ _ _ _ _ _ a b (S1.trans c) i⟩⟩
end
section
variable {P : Program} {w : World} {K : PySem.W.Frag} {mg : Str → Option Value} {base : Heap} {g : Glob}
/-- a def that raises nothing -/
theorem fnD {x qual : Str} {st : Stmt} {f : Addr} {fd : FuncData} {N ps : List Str} {k : Nat} {sd : SpD} {cs : CS} (F : Fun K x qual st f fd) (S : FnScope N ps (defScope st)) (hl : ∀ ds n k ke, sd ds n k ke → ds.length = ps.length)
    (hbody : ∀ (cdv : Value) (A : Around) (outer : List Env) (s : Shared) (H : Hp) (E : XK), Room k (A.deeper (envOfC qual (defScope st) s.heap.objs.size f cdv)) → PDSs (cxOf CX0 P w K mg base N qual (defScope st) f cdv A outer s H E).nox g xF (defBody st) cs)
    (himp : ∀ ds n k ke, sd ds n k ke → cs (startE N ds) n ⟨fun _ n' => k .none n', k, fun _ _ => False, fun _ _ => False, kF⟩) : FnOk P w K mg base CX0 (k + 1) f fd ps (spD g sd) := by
  refine F.ok S (fun vs H Q E h => ?_) (fun cdv A outer s H vs Q E hr h => ?_)
  · obtain ⟨C, ds, n, k, ke, _, _, _, i, sdd, _, _⟩ := h
    rw [i.length]
    exact hl _ _ _ _ sdd
  · refine ⟨_, (hbody cdv A outer s H E hr).pss, ?_⟩
    obtain ⟨C, ds, n, k, ke, hK, e0, Ev0, i, sdd, q, _⟩ := h
    exact ⟨C, _, n, now, _, hK, ev_start Ev0 i, himp _ _ _ _ sdd, ⟨fun ρ n' σ' H' O' a E' S' => q _ _ _ _ a E'.fin .non, fun d n' v H' a F b => q _ _ _ _ a F b, fun _ _ _ _ _ h => h.elim, fun _ _ _ _ _ h => h.elim, xl_F⟩⟩
/-- a def that may raise -/
theorem fnDX {x qual : Str} {st : Stmt} {f : Addr} {fd : FuncData} {N ps : List Str} {k : Nat} {sd : SpD} {cs : CS} (F : Fun K x qual st f fd) (S : FnScope N ps (defScope st)) (hl : ∀ ds n k ke, sd ds n k ke → ds.length = ps.length)
    (hbody : ∀ (cdv : Value) (A : Around) (outer : List Env) (s : Shared) (H : Hp) (E : XK), Room k (A.deeper (envOfC qual (defScope st) s.heap.objs.size f cdv)) → Takes (cxOf (L2.CX P w) P w K mg base N qual (defScope st) f cdv A outer s H E) (fun cls d _ H => E cls d H) →
      PDSs (cxOf (L2.CX P w) P w K mg base N qual (defScope st) f cdv A outer s H E) g (fun cls d _ H => E cls d H) (defBody st) cs)
    (himp : ∀ ds n k ke, sd ds n k ke → cs (startE N ds) n ⟨fun _ n' => k .none n', k, fun _ _ => False, fun _ _ => False, fun x _ n' => ke x n'⟩) : FnOk P w K mg base (L2.CX P w) (k + 1) f fd ps (spD g sd) := by
  refine F.okX S (fun vs H Q E h => ?_) (fun cdv A outer s H vs Q E hr h => ?_)
  · obtain ⟨C, ds, n, k, ke, _, _, _, i, sdd, _, _⟩ := h
    rw [i.length]
    exact hl _ _ _ _ sdd
  · refine ⟨_, (hbody cdv A outer s H E hr (takes_of rfl rfl rfl rfl)).pss, ?_⟩
    obtain ⟨C, ds, n, k, ke, hK, e0, Ev0, i, sdd, q, qe⟩ := h
    exact ⟨C, _, n, now, _, hK, ev_start Ev0 i, himp _ _ _ _ sdd, ⟨fun ρ n' σ' H' O' a E' S' => q _ _ _ _ a E'.fin .non, fun d n' v H' a F b => q _ _ _ _ a F b, fun _ _ _ _ _ h => h.elim, fun _ _ _ _ _ h => h.elim,
      fun c fs ρ' n' σ' H' O' dd a E' b => qe c fs n' dd H' a E'.fin (b.same hid_now)⟩⟩
end
end RM
namespace RM
open PySem PySem.Spec PyProof.Rows L2 CS RZ
/-! ### operands that are looked at, not taken: names of own things, values -/
def peekD (ρ : En) (i : Nat) : Option D := match ρ[i]? with
  | some (some (Sl.v d)) => some d
  | some (some (Sl.own d)) => some d
  | _ => none
inductive Pk (T : Tab) (Hh H : Hp) : V → D → Prop
  | val {v : V} {d : D} : Is T Hh v d → Pk T Hh H v d
  | own {p : Addr} {d : D} : OwnAt T Hh H p d → Pk T Hh H (.ref p) d
inductive Opd where
  | nm (i : Nat)
  | ex (t : CE)
def cOpd (o : Opd) (ρ : En) (n : Nat) (k : (En → Option D) → En → Nat → Prop) (ke : KE) : Prop := match o with
  | .nm i => (peekD ρ i).isSome = true ∧ k (fun ρ => peekD ρ i) ρ n
  | .ex t => t ρ n (fun d ρ' n' => k (fun _ => some d) ρ' n') ke
def liftQ (g : Glob) (xk : WX) (o : Opd) : TE := fun σ H Q => ∃ (C : Ctx) (ρ : En) (n : Nat) (O : Ow) (k : (En → Option D) → En → Nat → Prop) (ke : KE), C.On g ∧ Ev C ρ n σ H O ∧ cOpd o ρ n k ke ∧ XL C xk ke ∧
  ∀ (get : En → Option D) (ρ' : En) (n' : Nat) (v : V) (H' : Hp) (O' : Ow), k get ρ' n' → Ev C ρ' n' σ H' O' → Same (hid C O H) (hid C O' H') →
    (∀ (ρ2 : En) (n2 : Nat) (H2 : Hp) (O2 : Ow) (d : D), Ev C ρ2 n2 σ H2 O2 → Same (hid C O' H') (hid C O2 H2) → get ρ2 = some d → Pk C.T (hid C O2 H2) H2 v d) → Q v H'
structure PDQ (X : Cx) (g : Glob) (xk : WX) (e : Expr) (o : Opd) : Prop where
  pe : PE X e (liftQ g xk o)
section
variable {X : Cx} {g : Glob} {xk : WX} {pos : Pos} {C : Ctx} {ρ : En} {n : Nat} {σ : L2.St} {H H' : Hp} {O : Ow}
theorem peek_at (E : Ev C ρ n σ H O) {i : Nat} {d : D} (h : peekD ρ i = some d) : ∃ v, σ[i]? = some (some v) ∧ Pk C.T (hid C O H) H v d := by
  unfold peekD at h
  split at h
  · rename_i e
    cases h
    obtain ⟨v, h1, h2⟩ := E.val i _ e
    exact ⟨v, h1, .val h2⟩
  · rename_i e
    cases h
    obtain ⟨p, _, h1, h2⟩ := E.own i _ e
    exact ⟨_, h1, .own h2⟩
  · cases h
theorem Pk.is {T : Tab} {Hh H : Hp} {v : V} {d : D} (s : Same Hh H) (h : Pk T Hh H v d) : Is T H v d := by
  cases h with
  | val h => exact h.same s
  | own h =>
    cases h with
    | lst h r => exact .lst h (r.same s)
    | dk h r => exact .dk (.inl h) (r.same s)
    | dt h r => exact .dt (.inl h) (r.same s)
    | obj h h2 r => exact .obj h (s _ _ h2) (r.same s)
def scalD : D → Bool
  | .none => true
  | .bool _ => true
  | .int _ => true
  | .str _ => true
  | _ => false
theorem Is.scal {T : Tab} {H H' : Hp} {v : V} {d : D} (h : Is T H v d) (s : scalD d = true) : Is T H' v d := by
  cases h <;> first | exact .non | exact .bl _ | exact .int _ | exact .str _ | (cases s)
theorem scalQ {z : D} {Q : VK} (E : Ev C ρ n σ H O) (s : scalD z = true) (h : ∀ (v : V) (H' : Hp), Ev C ρ n σ H' O → Same (hid C O H) (hid C O H') → Is C.T (hid C O H') v z → Q v H') : NewQ C.T H H z Q := fun v H' s1 i =>
  h v H' (E.ext s1) (hid_same s1) ((i H' s1 fun a o e _ => e).scal s)
theorem pdq_nm (i : Nat) {x : Str} (hN : X.N[i]? = some x := by rfl) (hv : Vis X.env.scope x := by first | exact Or.inl rfl | exact Or.inr (Or.inl rfl) | exact Or.inr (Or.inr rfl)) (hd : (x == ("__debug__" : Str)) = false := by decide)
    (hcd : (x == ("__classdict__" : Str)) = false := by decide) : PDQ X g xk (.Name x pos) (.nm i) := by
  refine ⟨PE.imp (pe_var hN hv hd hcd) fun σ H Q r => ?_⟩
  obtain ⟨C, ρ, n, O, k, ke, hK, E, t, x, q⟩ := r
  obtain ⟨d, hd⟩ := Option.isSome_iff_exists.mp t.1
  obtain ⟨v, h1, h2⟩ := peek_at E hd
  refine ⟨v, h1, q _ _ _ _ _ _ t.2 E (Same.refl _) fun ρ2 n2 H2 O2 d2 E2 S2 hd2 => ?_⟩
  obtain ⟨v2, h3, h4⟩ := peek_at E2 hd2
  rw [h1] at h3
  cases h3
  exact h4
/-! scalar results -/
def cCBQ (u : List D → D → Prop) (o : Opd) : CE := fun ρ n k ke => cOpd o ρ n (fun get ρ1 n1 => ∃ x z, get ρ1 = some x ∧ u [x] z ∧ scalD z = true ∧ k z ρ1 n1) ke
theorem pd_callBQ {id : String} {u : List D → D → Prop} {x : Str} {p : Pos} {e : Expr} {o : Opd} (hc : CallD X (.builtin id) u) (G : Good X g) (hg : Gl X x) (hm : X.mg x = none) (hv : bootBuiltins x = some (.builtin id)) (ha : PDQ X g xk e o) (hn : x ≠ "__name__" := by decide) (hdb : (x == ("__debug__" : Str)) = false := by decide)
    (hs : starEach [e] X.env = (false, eval e X.env) :: starEach [] X.env := by rfl) (hpl : (backTo pos (starEach [] X.env)).any (·.1) = false := by rfl) : PD X g xk (.Call (.Name x p) [e] [] pos) (cCBQ u o) := by
  obtain ⟨r, hr, hg'⟩ := hc
  refine ⟨PE.imp (pe_callB hr hg hm hv (pa_cons ha.pe pa_nil hs) hn hdb hs hpl) fun σ H Q h => ?_⟩
  obtain ⟨C, ρ, n, O, k, ke, hK, E, t, x, q⟩ := h
  refine ⟨C, ρ, n, O, _, ke, hK, E, t, x, fun get ρ1 n1 v H1 O1 k1 E1 S1 p1 => ?_⟩
  obtain ⟨x0, z, h1, hz, sc, k1⟩ := k1
  exact hg' C.T H1 H1 [v] [x0] z Q (hK.1.trans G.K) (Same.refl _) (.cons ((p1 _ _ _ _ _ E1 (Same.refl _) h1).is hid_le) .nil) hz (scalQ E1 sc fun v3 H3 E3 S3 i3 => q _ _ _ _ _ _ k1 E3 (S1.trans S3) i3)
/-! a member -/
def cIxQ (o : Opd) (tb : CE) : CE := fun ρ n k ke => cOpd o ρ n (fun get ρ1 n1 => tb ρ1 n1 (fun y ρ2 n2 => ∃ x z, get ρ2 = some x ∧ atD x y = some z ∧ k z ρ2 n2) ke) ke
theorem pd_ixQ {a b : Expr} {o : Opd} {tb : CE} (G : Good X g) (ha : PDQ X g xk a o) (hb : PD X g xk b tb) (hs : PlainIx b) : PD X g xk (.Subscript a b pos) (cIxQ o tb) := by
  refine ⟨PE.imp (pe_ix ix_seq ha.pe hb.pe hs) fun σ H Q h => ?_⟩
  obtain ⟨C, ρ, n, O, k, ke, hK, E, t, x, q⟩ := h
  refine ⟨C, ρ, n, O, _, ke, hK, E, t, x, fun get ρ1 n1 v H1 O1 k1 E1 S1 p1 => ⟨C, ρ1, n1, O1, _, ke, hK, E1, k1, x, fun d2 ρ2 n2 v2 H2 O2 k2 E2 S2 i2 => ?_⟩⟩
  obtain ⟨x0, z, h1, hz, k2⟩ := k2
  have pk := p1 _ _ _ _ _ E2 S2 h1
  have fin : ∀ u, Is C.T (hid C O2 H2) u z → Q u H2 := fun u iu => q _ _ _ _ _ _ k2 E2 (S1.trans S2) iu
  unfold atD at hz
  split at hz
  · rename_i ds0 i0
    rw [i2.int']
    have : ∃ a xs, v = .ref a ∧ H2 a = some (.lst xs) ∧ IsL C.T (hid C O2 H2) xs ds0 := by
      cases pk with
      | val h => obtain ⟨a, xs, e, h, r⟩ := h.list'; exact ⟨a, xs, e, hid_le _ _ h, r⟩
      | own h => cases h with | lst h r => exact ⟨_, _, rfl, h, r⟩
    obtain ⟨a, xs, rfl, ha, r⟩ := this
    obtain ⟨u, h3, h4⟩ := atI_is r hz
    exact .inl ⟨a, xs, _, u, rfl, rfl, SqL.of ha, h3, fin u h4⟩
  · rw [i2.int']
    cases pk with
    | val h =>
      obtain ⟨a, xs, rfl, ha, r⟩ := h.tup'
      obtain ⟨u, h3, h4⟩ := atI_is r hz
      exact .inr (.inl ⟨a, xs, _, u, rfl, rfl, (hK.1.trans G.K) ▸ sqt_same hid_le ha, h3, fin u h4⟩)
    | own h => cases h
  · rw [i2.int']
    cases pk with
    | own h => cases h
    | val h =>
      rw [h.str']
      split at hz
      · rename_i z0 i c
        cases h' : atI z0.cps.toList i with
        | none =>
          rw [h'] at hz
          cases hz
        | some c' =>
          rw [h'] at hz
          cases hz
          exact .inr (.inr ⟨_, _, c', rfl, rfl, lim_le c, h', fin _ (.str _)⟩)
      · cases hz
  · cases hz
/-! the truth of a list, a tuple, a text -/
/-! own lists change -/
def cApp (i : Nat) (tb : CE) : CE := fun ρ n k ke => (∃ xs, ρ[i]? = some (some (Sl.own (.list xs)))) ∧ tb ρ n (fun y ρ1 n1 => ∃ xs, ρ1[i]? = some (some (Sl.own (.list xs))) ∧ xs.length < lim ∧ k .none (ρ1.set i (some (Sl.own (.list (xs ++ [y]))))) n1) ke
theorem own_list (E : Ev C ρ n σ H O) {i : Nat} {xs : List D} (h : ρ[i]? = some (some (Sl.own (.list xs)))) : ∃ p us, O i = some p ∧ σ[i]? = some (some (.ref p)) ∧ H p = some (.lst us) ∧ IsL C.T (hid C O H) us xs := by
  obtain ⟨p, h1, h2, h3⟩ := E.own i _ h
  cases h3 with
  | lst h3 r => exact ⟨p, _, h1, h2, h3, r⟩
theorem pd_append (i : Nat) {x : Str} {a : Expr} {tb : CE} {p1 apos : Pos} (ha : PD X g xk a tb) (hN : X.N[i]? = some x := by rfl) (hv : Vis X.env.scope x := by first | exact Or.inl rfl | exact Or.inr (Or.inl rfl) | exact Or.inr (Or.inr rfl)) (hd : (x == ("__debug__" : Str)) = false := by decide)
    (hcd : (x == ("__classdict__" : Str)) = false := by decide) (hbase : attributeBase (.Name x p1) "append" X.env (eval (.Name x p1) X.env) = eval (.Name x p1) X.env := by rfl)
    (hfew : ((backTo pos (starEach [a] X.env)).all (fun x => !x.1) && (backToKw pos (keywordEach [] X.env)).all (fun x => x.1.isSome)
      && decide (([a] : List Expr).length + ([] : List Keyword).length + (if ([] : List Keyword).isEmpty then 0 else 1) < 30)) = true := by rfl)
    (hline : (apos.endLine == pos.line) = true := by rfl) (hs : starEach [a] X.env = (false, eval a X.env) :: starEach [] X.env := by rfl) (hplain : (backTo pos (starEach [] X.env)).any (·.1) = false := by rfl) :
    PD X g xk (.Call (.Attribute (.Name x p1) "append" apos) [a] [] pos) (cApp i tb) := by
  refine ⟨PE.imp (pe_bm PySem.F.plainAttrs_list PySem.F.slot_list_append PySem.F.type_list_append mt_append (pe_var (i := i) hN hv hd hcd) (pa_cons ha.pe pa_nil hs) hbase hfew hline hs hplain) fun σ H Q h => ?_⟩
  obtain ⟨C, ρ, n, O, k, ke, hK, E, ⟨⟨xs, e0⟩, t⟩, x, q⟩ := h
  obtain ⟨p, us, g1, g2, g3, g4⟩ := own_list E e0
  refine ⟨.ref p, g2, .inl ⟨rfl, us, SqL.of g3⟩, C, ρ, n, O, _, ke, hK, E, t, x, fun d ρ1 n1 v H1 O1 k1 E1 S1 i1 => ?_⟩
  obtain ⟨ys, e1, hl, k1⟩ := k1
  obtain ⟨p', us', w1, w2, w3, w4⟩ := own_list E1 e1
  rw [g2] at w2
  cases w2
  obtain ⟨E2, S2⟩ := E1.chg (d := .list (ys ++ [d])) (o := .lst (us' ++ [v])) (lt_of_get e1) w1 (.lst upd_same (w4.append (.cons i1 .nil)))
  exact ⟨p, us', v, rfl, rfl, w3, by rw [w4.length]; exact lim_lt hl, q _ _ _ _ _ _ k1 E2 (S1.trans S2) .non⟩
end
end RM
namespace RM
open PySem PySem.Spec PyProof.Rows L2 CS RZ
section
variable {X : Cx} {g : Glob} {xk : WX} {pos : Pos} {C : Ctx} {ρ : En} {n : Nat} {σ : L2.St} {H H' : Hp} {O : Ow}
/-! ### truth -/
/-! ### own lists change -/
theorem name_at (E : Ev C ρ n σ H O) {ρ1 : En} {n1 : Nat} {H1 : Hp} {O1 : Ow} (E1 : Ev C ρ1 n1 σ H1 O1) {i : Nat} {p : Addr} {ys : List D} (h : σ[i]? = some (some (.ref p))) (e : ρ1[i]? = some (some (Sl.own (.list ys)))) : ∃ us, O1 i = some p ∧ H1 p = some (.lst us) ∧ IsL C.T (hid C O1 H1) us ys := by
  obtain ⟨p', us', w1, w2, w3, w4⟩ := own_list E1 e
  rw [h] at w2
  cases w2
  exact ⟨us', w1, w3, w4⟩
def ownL (ρ : En) (i : Nat) (xs : List D) : Prop := ρ[i]? = some (some (Sl.own (.list xs)))
def cMut (i : Nat) (ta : CA) (u : List D → List D → Option (D × List D)) : CE := fun ρ n k ke => (∃ xs, ownL ρ i xs) ∧ ta ρ n (fun ds ρ1 n1 => ∃ xs r ys, ownL ρ1 i xs ∧ xs.length < lim ∧ u xs ds = some (r, ys) ∧ k r (ρ1.set i (some (Sl.own (.list ys)))) n1) ke
/-- x.m(..) of an own list: what it tells, what is left -/
def MutD (X : Cx) (r : V → List V → Hp → VK → Prop) (u : List D → List D → Option (D × List D)) : Prop := ∀ (T : Tab) (Hh H : Hp) (p : Addr) (us vs : List V) (xs ds ys : List D) (z : D) (Q : VK), Same Hh H → H p = some (.lst us) → IsL T Hh us xs → IsL T Hh vs ds → xs.length < lim → u xs ds = some (z, ys) →
  (∀ v us', IsL T Hh us' ys → Is T Hh v z → Q v (upd H p (.lst us'))) → r (.ref p) vs H Q
theorem mut_use {r : V → List V → Hp → VK → Prop} {u : List D → List D → Option (D × List D)} {i : Nat} {ta : CA} (hM : MutD X r u) {σ : L2.St} {H : Hp} {Q : VK} (h : lift g xk (cMut i ta u) σ H Q) : tBM X.K "list" r (tVar i) (liftA g xk ta) σ H Q := by
  obtain ⟨C, ρ, n, O, k, ke, hK, E, ⟨⟨xs, e0⟩, t⟩, x, q⟩ := h
  obtain ⟨p, us, g1, g2, g3, g4⟩ := own_list E e0
  refine ⟨.ref p, g2, .inl ⟨rfl, us, SqL.of g3⟩, C, ρ, n, O, _, ke, hK, E, t, x, fun ds ρ1 n1 vs H1 O1 k1 E1 S1 i1 => ?_⟩
  obtain ⟨ys, z, zs, e1, hl, hu, k1⟩ := k1
  obtain ⟨us', w1, w3, w4⟩ := name_at E E1 g2 e1
  refine hM C.T (hid C O1 H1) H1 p us' vs ys ds zs z Q hid_le w3 w4 i1 hl hu fun v us2 i2 iz => ?_
  obtain ⟨E2, S2⟩ := E1.chg (d := .list zs) (o := .lst us2) (lt_of_get e1) w1 (.lst upd_same i2)
  exact q _ _ _ _ _ _ k1 E2 (S1.trans S2) (iz.same S2)
def uPopAt (xs ds : List D) : Option (D × List D) := match ds with
  | [.int i] => if 0 ≤ i ∧ i < 2 ^ 63 then (xs[i.toNat]?).map fun d => (d, xs.eraseIdx i.toNat) else none
  | _ => none
def uIns (xs ds : List D) : Option (D × List D) := match ds with
  | [.int i, d] => if 0 ≤ i ∧ i < 2 ^ 63 then some (.none, xs.take i.toNat ++ [d] ++ xs.drop i.toNat) else none
  | _ => none
theorem mu_popAt : MutD X rPopAt uPopAt := by
  intro T Hh H p us vs xs ds ys z Q s hp r i hl hu q
  unfold uPopAt at hu
  split at hu
  · split at hu
    · rename_i j c
      obtain ⟨v, rfl, iv⟩ := i.one
      rw [iv.int']
      cases hx : xs[j.toNat]? with
      | none => rw [hx] at hu; cases hu
      | some d =>
        rw [hx] at hu
        cases hu
        obtain ⟨y, h1, h2⟩ := r.get hx
        have l1 := lt_of_get h1
        refine ⟨p, us, j, j.toNat, y, rfl, rfl, hp, by omega, c.2, ?_, h1, q _ _ (r.eraseIdx _) h2⟩
        have h0 : ixN us.length j = some j.toNat := by
          unfold ixN
          rw [if_pos c.1, if_pos (by omega)]
        exact (ixN_seq h0).1
    · cases hu
  · cases hu
theorem pd_mut (i : Nat) {x : Str} {m : Str} {id : String} {a : Expr} {as : List Expr} {ta : CA} {p1 apos : Pos} {r : V → List V → Hp → VK → Prop} {u : List D → List D → Option (D × List D)} (slot : Slot "list" m id) (hty : typeOf (.builtin id) = pure (.type "method_descriptor")) (hm : MtR X id r) (hM : MutD X r u)
    (ha : PDA X g xk (a :: as) ta) (hN : X.N[i]? = some x := by rfl) (hv : Vis X.env.scope x := by first | exact Or.inl rfl | exact Or.inr (Or.inl rfl) | exact Or.inr (Or.inr rfl)) (hd : (x == ("__debug__" : Str)) = false := by decide)
    (hcd : (x == ("__classdict__" : Str)) = false := by decide) (hbase : attributeBase (.Name x p1) m X.env (eval (.Name x p1) X.env) = eval (.Name x p1) X.env := by rfl)
    (hfew : ((backTo pos (starEach (a :: as) X.env)).all (fun x => !x.1) && (backToKw pos (keywordEach [] X.env)).all (fun x => x.1.isSome)
      && decide ((a :: as).length + ([] : List Keyword).length + (if ([] : List Keyword).isEmpty then 0 else 1) < 30)) = true := by rfl)
    (hline : (apos.endLine == pos.line) = true := by rfl) (hs : starEach (a :: as) X.env = (false, eval a X.env) :: starEach as X.env := by rfl) (hplain : (backTo pos (starEach as X.env)).any (·.1) = false := by rfl) :
    PD X g xk (.Call (.Attribute (.Name x p1) m apos) (a :: as) [] pos) (cMut i ta u) :=
  ⟨PE.imp (pe_bm PySem.F.plainAttrs_list slot hty hm (pe_var (i := i) hN hv hd hcd) ha.pa hbase hfew hline hs hplain) fun σ H Q h => mut_use hM h⟩
end
end RM
namespace RM
open PySem PySem.Spec PyProof.Rows L2 CS RZ
/-! ### dicts -/
inductive KeyAt (Hh : Hp) : V → D → Prop
  | k (k : L2.Key) : KeyAt Hh (kV k) (kD k)
  | t {b : Addr} {ks : List L2.Key} : Hh b = some (.tup (ks.map kV)) → KeyAt Hh (.ref b) (.tuple (ks.map kD))
theorem KeyAt.same {H H' : Hp} {v : V} {d : D} (h : KeyAt H v d) (s : Same H H') : KeyAt H' v d := by
  cases h with
  | k k => exact .k k
  | t h => exact .t (s _ _ h)
end RM
namespace RM
open PySem PySem.Spec PyProof.Rows L2 CS RZ
/-! ### objects -/
def fieldD (fs : List (D × D)) (f : Str) : Option D := (fs.find? fun kv => PyData.eqv kv.1 (.str f)).map (·.2)
theorem eqv_str (a b : Str) : PyData.eqv (.str a) (.str b) = decide (a = b) := by
  show (a == b) = _
  by_cases c : a = b
  · rw [decide_eq_true c, c]
    exact beq_self_eq_true b
  · rw [decide_eq_false c]
    exact beq_eq_false_iff_ne.mpr c
section
variable {X : Cx} {g : Glob} {xk : WX} {pos : Pos} {C : Ctx} {ρ : En} {n : Nat} {σ : L2.St} {H H' : Hp} {O : Ow}
/-- o.f, a property: what its def tells -/
def cProp (sd : SpD) (ta : CE) (c : Nat) : CE := fun ρ n k ke => ta ρ n (fun d ρ1 n1 => (∃ fs, d = obj c fs) ∧ sd [d] n1 (fun z n2 => k z ρ1 n2) (fun _ _ => False)) ke
/-- o.m(..) -/
def cMeth (sd : SpD) (to : CE) (ta : CA) (c : Nat) (m : Str) : CE := fun ρ n k ke => to ρ n (fun d ρ1 n1 => (∃ fs, d = obj c fs ∧ fieldD fs m = none) ∧ ta ρ1 n1 (fun ds ρ2 n2 => sd (d :: ds) n2 (fun z n3 => k z ρ2 n3) (fun y n3 => ke y ρ2 n3)) ke) ke
/-! ### a new object -/
abbrev SpI := List D → Nat → (List (D × D) → Nat → Prop) → (Xv → Nat → Prop) → Prop
def cMake (c : Nat) (sd : SpI) (ta : CA) : CE := fun ρ n k ke => ta ρ n (fun ds ρ1 n1 => sd ds n1 (fun fs n2 => k (obj c fs) ρ1 n2) (fun y n2 => ke y ρ1 n2)) ke
end
end RM
namespace L2
open PySem PySem.Spec PyProof.Rows CS
section
variable {X : Cx} {e : Expr} {es : List Expr} {ta : TA} {p pos : Pos}
/-- C(e, ..) for a raise, C an own error class whose __init__ stores fields, over any built-in base -/
theorem pmk_ox {CX : CXT} {x : Str} {C fI : Addr} {k : Nat} {fd : FuncData} {ps : List Str} {sp : Sp} (T : OxC X.K C fI) (exC : PySem.W.subIn X.K (.ref C) (.type "BaseException") = some true) (tyC : PySem.W.typeIn X.K (.ref C) = some (.type "type"))
    (F1 : FnOk X.prog X.w X.K X.mg X.base CX k fI fd ps sp) (hr : Room (k + 1) X.A) (hb : Binds X.K fd ps []) (hx : Passes CX X (fun _ _ _ => False)) (hg : Gl X x) (hm : X.mg x = some (.ref C)) (ha : PA X (e :: es) ta)
    (hdb : (x == ("__debug__" : Str)) = false := by decide) (he : starEach (e :: es) X.env = (false, eval e X.env) :: starEach es X.env := by rfl) (hpl : (backTo pos (starEach es X.env)).any (·.1) = false := by rfl) :
    PMk X (.Call (.Name x p) (e :: es) [] pos) (tMkO C sp [] ta) := by
  intro pins s σ H Q I h
  obtain ⟨B, newId, initId, bm, F, _, _, nm, q, N, bs, sn, sub, ab, col, dd, k0, k1, k2, k3, k5, hC⟩ := T.base
  refine wpAny_Call_Name_kw (ld_glob I hg hm ?_ hdb)
  refine PySem.W.callWith_K (h₀ := X.base) I.ok.mod.kin T.kC (thn (ha.run pos pins s σ H _ I h) fun us s1 ⟨vs, H1, I1, r1, hz, q1⟩ => ⟨I1.kIn, ?_⟩) he hpl
  show wpAny _ _ (call (.ref C) us) _ _ _
  obtain ⟨hp, g, dr, tk, os⟩ := s1
  have hsz : hp.objs.size ≤ hp.objs.size + 1 := Nat.le_succ _
  have hn : H1 (hp.objs.size + 1) = none := I1.hok.fresh hsz
  have hq := q1 (hp.objs.size + 1) hn
  rw [List.append_nil] at hq
  have kk : ∀ b o, hp.get? b = some o → ((hp.push (PySem.W.kdv_tup us)).push (PySem.HandSPX.excO C hp.objs.size)).get? b = some o := fun b o e => Heap.get?_push_of_some _ (Heap.get?_push_of_some _ e)
  have hget : ((hp.push (PySem.W.kdv_tup us)).push (PySem.HandSPX.excO C hp.objs.size)).get? (hp.objs.size + 1) = some (PySem.HandSPX.excO C hp.objs.size) := by heap_get
  have I2 : Inv X pins σ (upd H1 (hp.objs.size + 1) (exo (hp.objs.size + 1) C none)) ⟨(hp.push (PySem.W.kdv_tup us)).push (PySem.HandSPX.excO C hp.objs.size), g, dr, tk, os⟩ :=
    I1.laid (t' := tk) (a := hp.objs.size + 1) (o := exo (hp.objs.size + 1) C none) (h' := (hp.push (PySem.W.kdv_tup us)).push (PySem.HandSPX.excO C hp.objs.size)) kk hsz (exo_ok hget)
  have r2 : Vals (V.ref (hp.objs.size + 1) :: vs) (Value.ref (hp.objs.size + 1) :: us) := .cons rfl r1
  have hus : us.length ≤ sizeLine := by
    rw [← Paired.length r1, sizeLine_eq]
    omega
  refine wpAny_call (PySem.HandSPX.call_own F (fun _ => rfl) (I1.kIn _ _ hC) (PySem.W.looks_findIn I1.kIn T.iC) (fun self => PySem.W.bind_fn I1.kIn self T.tI) hus ?_)
  refine RM.fn_go F1 (hr.make C us []) (I2.env0.make C us []) I2.kIn hb (vs := V.ref (hp.objs.size + 1) :: vs) (by rw [List.append_nil]; exact r2) hq (fun er s' c => hx pins σ _ _ er s' I2 c) fun u s' c => ?_
  obtain ⟨_, H2, os2, bare2, un2, hok2, ru, rfl, d, fs, ea, ed, hd1, q2⟩ := c
  cases s'
  exact ⟨ru, mk_end (raises_own exC tyC) I1 hsz kk un2 hok2 os2 bare2 ea ed hd1 q2⟩
end
end L2
namespace RM
open PySem PySem.Spec PyProof.Rows L2 CS RZ
/-! ### __init__ -/
/-! ### own errors -/
structure ErrC (K : PySem.W.Frag) (C fI : Addr) (fs : List Str) : Prop where
  o : OxC K C fI
  no : ∀ f ∈ fs, PySem.W.findIn K (.ref C) f = some none
  ex : PySem.W.subIn K (.ref C) (.type "BaseException") = some true
  ty : PySem.W.typeIn K (.ref C) = some (.type "type")
def spErr (K : PySem.W.Frag) (C fI : Addr) (fs : List Str) : Sp := fun vs H Q _ => ∃ (a : Addr) (ys : List V), vs = .ref a :: ys ∧ ys.length = fs.length ∧ ErrC K C fI fs ∧ H a = some (exo a C none) ∧
  ∀ (dx : Addr) (H' : Hp), H dx = none → dx ≠ a → H' a = some (exo a C (some dx)) → H' dx = some (exd dx (fs.zip ys).reverse) → (∀ b, b ≠ a → b ≠ dx → H' b = H b) → Q .non H'
section
variable {P : Program} {w : World} {K : PySem.W.Frag} {mg : Str → Option Value} {base : Heap} {g : Glob}
/-- an __init__ of one field -/
theorem err1 {qual : Str} {st : Stmt} {f C fI : Addr} {fd : FuncData} {k : Nat} {f1 : Str} (F : Fun K "__init__" qual st f fd) (S : FnScope ["self", f1] ["self", f1] (defScope st))
    (hb : ∀ (cdv : Value) (A : Around) (outer : List Env) (s : Shared) (H : Hp) (E : XK), PSs (cxOf CX0 P w K mg base ["self", f1] qual (defScope st) f cdv A outer s H E).nox (defBody st) (tOx K f1 (tVar 0) (tVar 1))) :
    FnOk P w K mg base CX0 (k + 1) f fd ["self", f1] (spErr K C fI [f1]) := by
  refine F.ok S (fun vs H Q E h => ?_) (fun cdv A outer s H vs Q E hr h => ?_)
  · obtain ⟨a, ys, rfl, hl, _⟩ := h
    rw [List.length_cons, hl]
    rfl
  · obtain ⟨a, ys, rfl, hl, T, ea, q⟩ := h
    obtain ⟨x0, rfl⟩ : ∃ x0, ys = [x0] := by
      match ys, hl with
      | [x0], _ => exact ⟨x0, rfl⟩
    refine ⟨_, hb cdv A outer s H E, ?_⟩
    refine ⟨x0, rfl, .ref a, rfl, a, C, fI, rfl, T.o, T.no f1 (by simp), .inl ⟨ea, fun dx nd ne => ?_⟩⟩
    refine q dx _ nd ne upd_same ?_ fun b h1 h2 => ?_
    · rw [upd_ne ne, upd_same]
      rfl
    · rw [upd_ne h1, upd_ne h2]
end
def errF (fs : List Str) (ds : List D) : List (D × D) := ((fs.zip ds).map fun p => (.str p.1, p.2)).reverse
def cRaise (c : Nat) (fs : List Str) (ta : CA) : CS := fun ρ n e => ta ρ n (fun ds ρ' n' => ds.length = fs.length ∧ e.xc (c, errF fs ds) ρ' n') e.xc
theorem isF_snoc {T : Tab} {H : Hp} {f : Str} {v : V} {d : D} (iv : Is T H v d) : ∀ {us : List (Str × V)} {fs : List (D × D)}, IsF T H us fs → IsF T H (us ++ [(f, v)]) (fs ++ [(.str f, d)])
  | _, _, .nil => .cons iv .nil
  | _, _, .cons h r => .cons h (isF_snoc iv r)
theorem isF_zip {T : Tab} {H : Hp} : ∀ (fs : List Str) {vs : List V} {ds : List D}, IsL T H vs ds → IsF T H (fs.zip vs).reverse (errF fs ds)
  | [], _, _, _ => .nil
  | _ :: _, _, _, .nil => .nil
  | f :: fs, _, _, .cons h r => by
    unfold errF
    rw [List.zip_cons_cons, List.zip_cons_cons, List.map_cons, List.reverse_cons, List.reverse_cons]
    exact isF_snoc h (isF_zip fs r)
section
variable {X : Cx} {g : Glob} {xk : WX} {pos : Pos}
theorem pds_raise {x : Str} {c : Nat} {fI : Addr} {k : Nat} {fd : FuncData} {ps fs : List Str} {p pos2 : Pos} {e : Expr} {es : List Expr} {ta : CA} (hc : X.calm = true) (tk : Takes X xk) (T : ErrC X.K (g.cls c) fI fs) (F1 : FnOk X.prog X.w X.K X.mg X.base CX0 k fI fd ps (spErr X.K (g.cls c) fI fs)) (hr : Room (k + 1) X.A) (hb : Binds X.K fd ps [])
    (hg : Gl X x) (hm : X.mg x = some (.ref (g.cls c))) (ha : PDA X g xk (e :: es) ta) (hn : fs.length ≤ 1000 := by decide) (hdb : (x == ("__debug__" : Str)) = false := by decide) (he : starEach (e :: es) X.env = (false, eval e X.env) :: starEach es X.env := by rfl) (hpl : (backTo pos2 (starEach es X.env)).any (·.1) = false := by rfl) :
    PDS X g xk (.Raise (some (.Call (.Name x p) (e :: es) [] pos2)) none pos) (cRaise c fs ta) := by
  refine ⟨ps_imp (ps_raise hc tk (pmk_ox T.o T.ex T.ty F1 hr hb L2.pass0 hg hm ha.pa hdb he hpl)) fun F σ H h => ?_⟩
  obtain ⟨C, ρ, n, O, e, hK, E, t, l⟩ := h
  refine ⟨C, ρ, n, O, _, _, hK, E, t, l.xc, fun ds ρ1 n1 vs H1 O1 k1 E1 S1 i1 => ?_⟩
  have hlen : vs.length = fs.length := by rw [i1.length]; exact k1.1
  refine ⟨by omega, fun a na => ⟨a, vs, by rw [List.append_nil], hlen, T, upd_same, fun dx H' nd ne e1 e2 rest => ⟨rfl, dx, _, e1, e2, ?_, ?_⟩⟩⟩
  · rw [upd_ne ne] at nd
    exact nd
  · rw [upd_ne ne] at nd
    have S2 : Same H1 (upd (del H' a) dx (.xd (fs.zip vs).reverse)) := fun b o hb => by
      have h1 : b ≠ a := ne_of_none hb na
      have h2 : b ≠ dx := ne_of_none hb nd
      rw [upd_ne h2, del_ne h1, rest b h1 h2, upd_ne h1]
      exact hb
    have E2 := E1.ext S2
    obtain ⟨f1, f2, _, _⟩ := E1.fresh nd
    have h2 := l.xc c (errF fs ds) ρ1 n1 σ _ O1 (some dx) k1.2 E2 (.inr ⟨dx, _, rfl, hid_of upd_same f1 f2, (isF_zip fs i1).same (hid_same S2)⟩)
    rw [hK.2] at h2
    exact h2
end
end RM
namespace RM
open PySem PySem.Spec PyProof.Rows L2 CS RZ
/-! ### try: .. except C as n: .. -/
end RM
namespace RM
open PySem PySem.Spec PyProof.Rows L2 CS RZ
/-! ### operators of own classes -/
section
variable {X : Cx} {g : Glob} {xk : WX} {pos : Pos}
def cBinO (sd : SpD) (ta tb : CE) (c : Nat) : CE := fun ρ n k ke => ta ρ n (fun x ρ1 n1 => tb ρ1 n1 (fun y ρ2 n2 => (∃ fs, x = obj c fs) ∧ (∃ fs, y = obj c fs) ∧ sd [x, y] n2 (fun z n3 => k z ρ2 n3) (fun w n3 => ke w ρ2 n3)) ke) ke
/-! o[e] -/
def cSubO (sd : SpD) (ta tb : CE) (c : Nat) : CE := fun ρ n k ke => ta ρ n (fun x ρ1 n1 => tb ρ1 n1 (fun y ρ2 n2 => (∃ fs, x = obj c fs) ∧ sd [x, y] n2 (fun z n3 => k z ρ2 n3) (fun w n3 => ke w ρ2 n3)) ke) ke
/-! e in o, e not in o -/
/-! a == b of one own class -/
def cEqO (sd : SpD) (ta tb : CE) (c : Nat) : CE := cBinO sd ta tb c
end
end RM
namespace L2
open PySem PySem.Spec PyProof.Rows
/-! ### {k: v for ..} whose keys may be tuples -/
end L2
namespace RM
open PySem PySem.Spec PyProof.Rows L2 CS RZ
/-! ### dict comprehensions -/
section
variable {X : Cx} {g : Glob} {xk : WX} {pos : Pos}
/-! ### stars, and, or, not, minus -/
def cAndV (ta tb : CE) : CE := fun ρ n k ke => ta ρ n (fun d ρ1 n1 => ∃ b, d = .bool b ∧ if b = true then tb ρ1 n1 k ke else k (.bool false) ρ1 n1) ke
def cNotV (ta : CE) : CE := fun ρ n k ke => ta ρ n (fun d ρ1 n1 => ∃ b, d = .bool b ∧ k (.bool (!b)) ρ1 n1) ke
def cNeg (ta : CE) : CE := fun ρ n k ke => ta ρ n (fun d ρ1 n1 => ∃ i, d = .int i ∧ k (.int (-i)) ρ1 n1) ke
variable {a b : Expr} {rest : List Expr} {ta tb : CE} {ca cb : CT}
theorem pd_one {op} (h : PD X g xk a ta) : PD X g xk (.BoolOp op [a] pos) ta := ⟨pe_one h.pe⟩
theorem pd_and (ha : PD X g xk a ta) (hb : PD X g xk (.BoolOp .And (b :: rest) pos) tb) : PD X g xk (.BoolOp .And (a :: b :: rest) pos) (cAndV ta tb) := by
  refine ⟨PE.imp (pe_and ha.pe hb.pe) fun σ H Q r => ?_⟩
  obtain ⟨C, ρ, n, O, k, ke, hK, E, t, x, q⟩ := r
  refine ⟨C, ρ, n, O, _, ke, hK, E, t, x, fun d ρ1 n1 v H1 O1 k1 E1 S1 i1 => ?_⟩
  obtain ⟨b, rfl, k1⟩ := k1
  refine ⟨b, isBl i1, ?_⟩
  cases b with
  | true => exact ⟨C, ρ1, n1, O1, k, ke, hK, E1, k1, x, fun d ρ2 n2 v H2 O2 k2 E2 S2 i2 => q _ _ _ _ _ _ k2 E2 (S1.trans S2) i2⟩
  | false => exact q _ _ _ _ _ _ k1 E1 S1 (.bl false)
theorem pd_not (ha : PD X g xk a ta) : PD X g xk (.UnaryOp .Not a pos) (cNotV ta) := by
  refine ⟨PE.imp (pe_not ha.pe) fun σ H Q r => ?_⟩
  obtain ⟨C, ρ, n, O, k, ke, hK, E, t, x, q⟩ := r
  refine ⟨C, ρ, n, O, _, ke, hK, E, t, x, fun d ρ1 n1 v H1 O1 k1 E1 S1 i1 => ?_⟩
  obtain ⟨b, rfl, k1⟩ := k1
  exact ⟨b, isBl i1, q _ _ _ _ _ _ k1 E1 S1 (.bl _)⟩
theorem pd_neg (ha : PD X g xk a ta) : PD X g xk (.UnaryOp .USub a pos) (cNeg ta) := by
  refine ⟨PE.imp (pe_un un_neg ha.pe) fun σ H Q r => ?_⟩
  obtain ⟨C, ρ, n, O, k, ke, hK, E, t, x, q⟩ := r
  refine ⟨C, ρ, n, O, _, ke, hK, E, t, x, fun d ρ1 n1 v H1 O1 k1 E1 S1 i1 => ?_⟩
  obtain ⟨i, rfl, k1⟩ := k1
  exact ⟨i, i1.int', q _ _ _ _ _ _ k1 E1 S1 (.int _)⟩
/-! tests of and, or -/
structure PDW (X : Cx) (g : Glob) (xk : WX) (e : Expr) (td : CT) : Prop where
  pw : PW X e (liftT g xk td)
theorem pw_imp {e : Expr} {t t' : TT} (h : PW X e t) (q : ∀ σ H Q, t' σ H Q → t σ H Q) : PW X e t' := ⟨fun wh pins s σ H Q I r => h.run wh pins s σ H Q I (q _ _ _ r)⟩
def cAndT (ta tb : CT) : CT := fun ρ n k ke => ta ρ n (fun b ρ1 n1 => if b = true then tb ρ1 n1 k ke else k false ρ1 n1) ke
def cOrT (ta tb : CT) : CT := fun ρ n k ke => ta ρ n (fun b ρ1 n1 => if b = true then k true ρ1 n1 else tb ρ1 n1 k ke) ke
theorem pdw_and1 (h : PDT X g xk a ca) : PDW X g xk (.BoolOp .And [a] pos) ca := ⟨pw_and1 h.pt⟩
theorem pdw_or1 (h : PDT X g xk a ca) : PDW X g xk (.BoolOp .Or [a] pos) ca := ⟨pw_or1 h.pt⟩
theorem pdw_and (ha : PDT X g xk a ca) (hb : PDW X g xk (.BoolOp .And (b :: rest) pos) cb) : PDW X g xk (.BoolOp .And (a :: b :: rest) pos) (cAndT ca cb) := by
  refine ⟨pw_imp (pw_and ha.pt hb.pw) fun σ H Q r => ?_⟩
  obtain ⟨C, ρ, n, O, k, ke, hK, E, t, x, q⟩ := r
  refine ⟨C, ρ, n, O, _, ke, hK, E, t, x, fun b ρ1 n1 H1 O1 k1 E1 S1 => ?_⟩
  cases b with
  | true => exact ⟨C, ρ1, n1, O1, k, ke, hK, E1, k1, x, fun d ρ2 n2 H2 O2 k2 E2 S2 => q _ _ _ _ _ k2 E2 (S1.trans S2)⟩
  | false => exact q _ _ _ _ _ k1 E1 S1
theorem pdw_or (ha : PDT X g xk a ca) (hb : PDW X g xk (.BoolOp .Or (b :: rest) pos) cb) : PDW X g xk (.BoolOp .Or (a :: b :: rest) pos) (cOrT ca cb) := by
  refine ⟨pw_imp (pw_or ha.pt hb.pw) fun σ H Q r => ?_⟩
  obtain ⟨C, ρ, n, O, k, ke, hK, E, t, x, q⟩ := r
  refine ⟨C, ρ, n, O, _, ke, hK, E, t, x, fun b ρ1 n1 H1 O1 k1 E1 S1 => ?_⟩
  cases b with
  | true => exact q _ _ _ _ _ k1 E1 S1
  | false => exact ⟨C, ρ1, n1, O1, k, ke, hK, E1, k1, x, fun d ρ2 n2 H2 O2 k2 E2 S2 => q _ _ _ _ _ k2 E2 (S1.trans S2)⟩
theorem PDW.pdt {e : Expr} (h : PDW X g xk e ca) : PDT X g xk e ca := ⟨h.pw.pt⟩
end
end RM
namespace RM
open PySem PySem.Spec PyProof.Rows L2 CS RZ
/-! ### short words for what is generated -/
theorem hu64 {k : Nat} {A : Around} (r : Room k A) : A.units + 64 < cLine := by have := r.un; omega
/-- the built-in names are what they are -/
structure Bl (mg : Str → Option Value) : Prop where
  len : mg "len" = none
  sum : mg "sum" = none
  all : mg "all" = none
  any : mg "any" = none
  min : mg "min" = none
  max : mg "max" = none
  sorted : mg "sorted" = none
  tuple : mg "tuple" = none
  list : mg "list" = none
  set : mg "set" = none
  dict : mg "dict" = none
  range : mg "range" = none
  zip : mg "zip" = none
  enumerate : mg "enumerate" = none
  isinstance : mg "isinstance" = none
  abs : mg "abs" = none
  int : mg "int" = none
  str : mg "str" = none
  repr : mg "repr" = none
  bool : mg "bool" = none
  ValueError : mg "ValueError" = none
  LookupError : mg "LookupError" = none
/-- a def of the module, by its name, and what it keeps -/
structure HasF (P : Program) (w : World) (K : PySem.W.Frag) (mg : Str → Option Value) (base : Heap) (CX : CXT) (g : Glob) (k : Nat) (x : Str) (ps : List Str) (sd : SpD) : Prop where
  ex : ∃ f fd, FnOk P w K mg base CX k f fd ps (spD g sd) ∧ Binds K fd ps [] ∧ PySem.W.keepIn K (.ref f) = true ∧ mg x = some (.ref f)
section
variable {P : Program} {w : World} {K : PySem.W.Frag} {mg : Str → Option Value} {base : Heap} {X : Cx} {g : Glob} {xk : WX} {pos : Pos} {CX : CXT} {k j : Nat} {x : Str} {ps : List Str} {sd : SpD}
theorem pd_fun {p : Pos} {e : Expr} {es : List Expr} {ta : CA} (h : HasF X.prog X.w X.K X.mg X.base CX g j x ps sd) (hr : Room k X.A) (l : j ≤ k) (hg : Gl X x) (hx : ∀ σ, PassesAt CX X σ (WE xk σ)) (ha : PDA X g xk (e :: es) ta)
    (hdb : (x == ("__debug__" : Str)) = false := by decide) (he : starEach (e :: es) X.env = (false, eval e X.env) :: starEach es X.env := by rfl) (hpl : (backTo pos (starEach es X.env)).any (·.1) = false := by rfl) : PD X g xk (.Call (.Name x p) (e :: es) [] pos) (cCall sd ta) := by
  obtain ⟨f, fd, a, b, c, d⟩ := h.ex
  exact pd_call a (hr.mono l) hg d c b hx ha hdb he hpl
end
end RM
namespace RM
open PySem PySem.Spec PyProof.Rows L2 CS RZ
/-! ### sorted of a dict whose keys are tuples -/
end RM
namespace RM
open PySem PySem.Spec PyProof.Rows L2 CS RZ
section
variable {X : Cx} {g : Glob} {xk : WX} {pos : Pos}
/-! sorted of a dict with keys of text -/
theorem isL_strs {T : Tab} {H : Hp} : ∀ ss : List Str, IsL T H (ss.map V.str) (ss.map PyData.str)
  | [] => .nil
  | s :: ss => .cons (.str s) (isL_strs ss)
/-! ### a, b = x, y -/
def cPar (i j : Nat) (ta : CA) : CS := fun ρ n e => ta ρ n (fun ds ρ' n' => ∃ x y, ds = [x, y] ∧ e.nx ((ρ'.set i (some (Sl.v x))).set j (some (Sl.v y))) n') e.xc
/-- a, b = a new list, [] : both this frame's own -/
def cPar0 (i j : Nat) (t : CE) : CS := fun ρ n e => t ρ n (fun d ρ' n' => i < ρ'.length ∧ j < ρ'.length ∧ e.nx ((ρ'.set i (some (Sl.own d))).set j (some (Sl.own (.list [])))) n') e.xc
theorem pds_par0 {i j : Nat} {x y : Str} {a : Expr} {t : CE} {px py pt pn : Pos} {kt k2 pt2} (hc : X.calm = true) (hN : X.N.Nodup) (hi : X.N[i]? = some x) (hj : X.N[j]? = some y) (hij : i ≠ j)
    (hx : X.env.scope.names.lookup x = some .local) (hy : X.env.scope.names.lookup y = some .local) (ha : PDF X g xk a t)
    (hst : starEach [a, .List [] pn] X.env = (false, eval a X.env) :: starEach [.List [] pn] X.env := by rfl)
    (hw : swappedStores [.Tuple [.Name x px, .Name y py] kt pt] (.Tuple [a, .List [] pn] k2 pt2) X.env = pure (some [x, y]) := by rfl)
    (hs : swapsWithSole [.Tuple [.Name x px, .Name y py] kt pt] (.Tuple [a, .List [] pn] k2 pt2) pos.line X.env = pure false := by rfl) :
    PDS X g xk (.Assign [.Tuple [.Name x px, .Name y py] kt pt] (.Tuple [a, .List [] pn] k2 pt2) pos) (cPar0 i j t) := by
  refine ⟨ps_imp (ps_par hc hN hi hj hij hx hy (pa_cons ha.pe (pa_cons (pe_lst pa_nil) pa_nil) hst) hw hs) fun D σ H h => ?_⟩
  obtain ⟨C, ρ, n, O, e, hK, E, t, l⟩ := h
  refine ⟨C, ρ, n, O, _, _, hK, E, t, l.xc, fun d ρ1 n1 p H1 H' O1 k1 E1 S1 hp s ow no => ⟨Nat.zero_le _, fun p2 hp2 => ⟨.ref p, .ref p2, rfl, ?_⟩⟩⟩
  obtain ⟨E2, S2⟩ := E1.setOwn (i := i) k1.1 hp s ow no
  obtain ⟨E3, S3⟩ := E2.setOwn (i := j) (by rw [List.length_set]; exact k1.2.1) hp2 (same_new hp2) (.lst upd_same .nil) rfl
  exact l.nx _ _ _ _ _ k1.2.2 E3 ((S1.trans S2).trans S3)
/-! ### list of a text -/
def charsD (z : Str) : List D := z.cps.toList.map fun c => .str ⟨#[c]⟩
def gListS (ds : List D) (z : List D) : Prop := ∃ s, ds = [.str s] ∧ s.length ≤ lim ∧ z = charsD s
end
end RM
namespace RM
open PySem PySem.Spec PyProof.Rows L2 CS RZ
section
variable {X : Cx}
def signs (z : Str) : List Str := z.cps.toList.map fun c => ⟨#[c]⟩
theorem vals_signs : ∀ (l : List Nat) (us : List Value), us.length = l.length → (∀ (j : Nat) (u : Value), us[j]? = some u → ∃ (c : Nat) (t : Tok), l[j]? = some c ∧ u = Value.str ⟨#[c]⟩ t) → Vals (l.map fun c => V.str ⟨#[c]⟩) us
  | [], [], _, _ => .nil
  | [], _ :: _, h, _ => by cases h
  | _ :: _, [], h, _ => by cases h
  | c :: l, u :: us, h, q => by
    obtain ⟨c', t, e1, e2⟩ := q 0 u rfl
    cases e1
    refine .cons ⟨t, e2⟩ (vals_signs l us (Nat.succ.inj h) fun j v e => q (j + 1) v e)
theorem call_list_txt (hc : X.calm = true) : CallR X (.type "list") (fun xs H Q => ∃ z : Str, xs = [.str z] ∧ z.cps.size ≤ lim ∧ ∀ l, H l = none → Q (.ref l) (upd H l (.lst ((signs z).map V.str)))) := by
  intro pins s σ H xs us Q I r h
  obtain ⟨z, rfl, hz, q⟩ := h
  obtain ⟨u, rfl, rx⟩ := vals1 r
  obtain ⟨t, rfl⟩ := rx
  have hfit : z.cps.size ≤ sizeLine := lim_le hz
  refine call_list_str (I.ok.hd hc) z t (fun h' tk acc c' hk hS it => ?_) hfit
  have rv : Vals ((signs z).map V.str) acc.toList := by
    unfold signs
    rw [List.map_map]
    refine vals_signs z.cps.toList acc.toList (by rw [Array.length_toList, Array.length_toList]; exact it.1) fun j u e => ?_
    rw [Array.getElem?_toList] at e
    obtain ⟨c, u', e1, e2⟩ := it.2 j u e
    exact ⟨c, u', by rw [Array.getElem?_toList]; exact e1, e2⟩
  refine ⟨.ref s.heap.objs.size, _, I.laid (t' := tk) hk (Nat.le_refl _) (show ObjOk X.prog X.w _ h' _ (.lst _) from ⟨?_, acc.toList, c', rv, ?_⟩), rfl, q _ (I.hok.fresh (Nat.le_refl _))⟩
  · unfold signs
    rw [List.length_map, List.length_map, Array.length_toList]
    exact hfit
  · simpa using hS
theorem cf_listS (hc : X.calm = true) : CallF X (.type "list") gListS := by
  refine ⟨_, call_list_txt hc, fun T Hh H vs ds z Q hK s il hg q => ?_⟩
  obtain ⟨z, rfl, hl, rfl⟩ := hg
  obtain ⟨v, rfl, iv⟩ := il.one
  rw [iv.str']
  refine ⟨z, rfl, hl, q _ ?_⟩
  have : charsD z = (signs z).map PyData.str := by
    unfold charsD signs
    rw [List.map_map]
    rfl
  rw [this]
  exact isL_strs _
def gList' (ds : List D) (z : List D) : Prop := gList ds z ∨ gListS ds z
theorem cf_list' (hc : X.calm = true) : CallF X (.type "list") gList' := cf_list.or (cf_listS hc)
end
/-! ### draws -/
def sdTake : SpD := fun ds n k _ => ∃ m : Int, ds = [boxD, .int m] ∧ n ≤ 900000 ∧ 0 < m ∧ m < 2 ^ 200 ∧ ∀ r : Int, 0 ≤ r → r < m → k (.int r) (n + 1)
theorem Is.box' {T : Tab} {H : Hp} {v : V} (h : Is T H v boxD) : ∃ a, v = .ref a ∧ T.bx = some a := by
  unfold boxD at h
  cases h with
  | box h => exact ⟨_, rfl, h⟩
theorem take_imp {g : Glob} {vs : List V} {H : Hp} {Q : VK} {E : XK} (h : spD g sdTake vs H Q E) :
    ∃ (b : Addr) (n : Nat) (m : Int), vs = [.ref b, .int m] ∧ BoxAt H b n ∧ n ≤ 1000000 ∧ 0 < m ∧ m < 2 ^ 200 ∧ ∀ (H' : Hp) (r : Int), (∀ c o, c ≠ b → H c = some o → H' c = some o) → BoxAt H' b (n + 1) → 0 ≤ r → r < m → Q (.int r) H' := by
  obtain ⟨C, ds, n, k, ke, hK, e0, E0, i, ⟨m, rfl, hn, hm, hm2, s⟩, q, _⟩ := h
  obtain ⟨v, u, rfl, iv, iu⟩ := i.two
  obtain ⟨b, rfl, hb⟩ := iv.box'
  rw [iu.int']
  refine ⟨b, n, m, rfl, (E0.box b hb).2, by omega, hm, hm2, fun H' r kp bx h0 h1 => q _ _ _ _ (s r h0 h1) ⟨fun a o h nb => kp a o (fun z => nb (z ▸ hb)) (e0 ▸ h), fun b' hb' => ?_⟩ (.int r)⟩
  rw [hb] at hb'
  cases hb'
  exact bx
/-- one of some things -/
def sdOf : SpD := fun ds n k _ => ∃ (x : D) (l : List D), ds = [boxD, x] ∧ seqD x = some l ∧ n ≤ 900000 ∧ 0 < l.length ∧ l.length < 1000000 ∧ ∀ d ∈ l, k d (n + 1)
def cs_of : CS := cRet (cOp atD (cVar 1) (cCall sdTake (cCons (cVar 0) (cCons (cCB gLen (cCons (cVar 1) (cNil))) (cNil)))))
theorem atD_seq {x : D} {l : List D} {i : Int} (h : seqD x = some l) : atD x (.int i) = atI l i := by
  unfold seqD at h
  split at h <;> cases h <;> rfl
theorem lenD_seq {x : D} {l : List D} (h : seqD x = some l) : lenD x = some l.length := by
  unfold seqD at h
  split at h <;> cases h <;> rfl
theorem atI_in {α : Type} {l : List α} {i : Int} (h0 : 0 ≤ i) (h1 : i < l.length) : ∃ d ∈ l, atI l i = some d := by
  have hj : i.toNat < l.length := by omega
  refine ⟨l[i.toNat], List.getElem_mem hj, ?_⟩
  have := atI_nat (xs := l) (j := i.toNat) (List.getElem?_eq_getElem hj)
  rwa [Int.toNat_of_nonneg h0] at this
abbrev n_of : List Str := ["_law_box_here", "_law_some"]
theorem himp_of {e : EndsD} (ds : List D) (n : Nat) (k : D → Nat → Prop) (ke : Xv → Nat → Prop) (h : sdOf ds n k ke) (he : e.rt = k) : cs_of (startE n_of ds) n e := by
  obtain ⟨x, l, rfl, hs, hn, h0, h1, q⟩ := h
  refine ⟨_, ⟨x, l.length, rfl, lenD_seq hs, rfl⟩, (l.length : Int), rfl, hn, by omega, by omega, fun r r0 r1 => ?_⟩
  obtain ⟨d, hd, e1⟩ := atI_in r0 r1
  exact ⟨d, (atD_seq hs).trans e1, he ▸ q d hd⟩
/-- up to so many of some things, in any order -/
def sdPick : SpD := fun ds n k _ => ∃ (x : D) (l : List D) (m : Int), ds = [boxD, x, .int m] ∧ gList' [x] l ∧ n ≤ 800000 ∧ 0 ≤ m ∧ m ≤ 1000 ∧ l.length ≤ 1000 ∧
  ∀ (out rest : List D) (n' : Nat), (out ++ rest).Perm l → out.length = min m.toNat l.length → n' ≤ n + 1000 → k (.list out) n'
def cs_pick : CS := cSq (cPar0 4 5 (cCF gList' (cCons (cVar 1) (cNil)))) (cSq (cFor (cRange1 (cCons (cCB (fun ds z => gMin2 ds z ∨ gMin1 ds z) (cCons (cVar 2) (cCons (cCBQ gLen (.nm 4)) (cNil)))) (cNil))) (stN 3) (cDrop (cApp 5 (cMut 4 (cCons (cCall sdTake (cCons (cVar 0) (cCons (cCBQ gLen (.nm 4)) (cNil)))) (cNil)) uPopAt)))) (cRet (cVar 5)))
abbrev n_pick : List Str := ["_law_box_here", "_law_pool_so", "_law_many_so", "_law_turn", "_law_rest", "_law_found"]
theorem erase_perm {α : Type} : ∀ {l : List α} {i : Nat} (h : i < l.length), (l[i] :: l.eraseIdx i).Perm l
  | [], _, h => absurd h (Nat.not_lt_zero _)
  | _ :: _, 0, _ => List.Perm.refl _
  | x :: l, i + 1, h => (List.Perm.swap x _ _).trans ((erase_perm (l := l) (i := i) (Nat.lt_of_succ_lt_succ h)).cons x)
theorem pick_loop {e : EndsD} {b x m : D} : ∀ (turns : List D) (t0 : Option Sl) (rest found : List D) (n : Nat), turns.length ≤ rest.length → rest.length + found.length ≤ 1000 → n ≤ 900000 → turns.length ≤ 1000 → n + turns.length ≤ 900000 → b = boxD →
    (∀ (out rest' : List D) (t : Option Sl), (out ++ rest').Perm (found ++ rest) → out.length = found.length + turns.length → e.nx [some (.v b), some (.v x), some (.v m), t, some (.own (.list rest')), some (.own (.list out))] (n + turns.length)) →
    cForL (stN 3) (cDrop (cApp 5 (cMut 4 (cCons (cCall sdTake (cCons (cVar 0) (cCons (cCBQ gLen (.nm 4)) (cNil)))) (cNil)) uPopAt))) turns [some (.v b), some (.v x), some (.v m), t0, some (.own (.list rest)), some (.own (.list found))] n e
  | [], t0, rest, found, n, _, _, _, _, _, _, q => q found rest t0 (List.Perm.refl _) rfl
  | d :: ds, t0, rest, found, n, h1, h2, h3, h4, h5, hb, q => by
    rw [List.length_cons] at h1 h4 h5
    refine ⟨_, rfl, ⟨_, rfl⟩, ⟨_, rfl⟩, ?_⟩
    refine ⟨rfl, .list rest, .int (rest.length : Nat), rfl, ⟨.list rest, rest.length, rfl, rfl, rfl⟩, rfl, ?_⟩
    refine ⟨(rest.length : Int), by rw [hb], h3, by omega, by omega, fun r r0 r1 => ?_⟩
    have hj : r.toNat < rest.length := by omega
    have hu : uPopAt rest [.int r] = some (rest[r.toNat], rest.eraseIdx r.toNat) := by
      show (if 0 ≤ r ∧ r < 2 ^ 63 then (rest[r.toNat]?).map fun d => (d, rest.eraseIdx r.toNat) else none) = _
      rw [if_pos ⟨r0, by omega⟩, List.getElem?_eq_getElem hj]
      rfl
    refine ⟨rest, _, _, rfl, by unfold lim; omega, hu, found, rfl, by unfold lim; omega, ?_⟩
    have hl : (rest.eraseIdx r.toNat).length = rest.length - 1 := List.length_eraseIdx_of_lt hj
    show cForL _ _ ds [some (.v b), some (.v x), some (.v m), some (.v d), some (.own (.list (rest.eraseIdx r.toNat))), some (.own (.list (found ++ [rest[r.toNat]])))] (n + 1) e
    refine pick_loop ds _ _ _ _ (by omega) (by rw [List.length_append, List.length_singleton]; omega) (by omega) (by omega) (by omega) hb fun out rest' t hp hl2 => ?_
    have := q out rest' t (hp.trans ?_) (by rw [hl2, List.length_append, List.length_singleton, List.length_cons]; omega)
    · rw [List.length_cons] at this
      rw [show n + 1 + ds.length = n + (ds.length + 1) by omega]
      exact this
    · rw [List.append_assoc]
      exact List.Perm.append_left found (erase_perm hj)
theorem himp_pick {e : EndsD} (ds : List D) (n : Nat) (k : D → Nat → Prop) (ke : Xv → Nat → Prop) (h : sdPick ds n k ke) (he : e.rt = k) : cs_pick (startE n_pick ds) n e := by
  obtain ⟨x, l, m, rfl, hl, hn, m0, m1, l1, q⟩ := h
  refine ⟨l, hl, (by show 4 < 6; decide), (by show 5 < 6; decide), ?_⟩
  refine ⟨rfl, .list l, .int (l.length : Nat), rfl, ⟨.list l, l.length, rfl, rfl, rfl⟩, rfl, .int (if (l.length : Int) < m then (l.length : Int) else m), .inl ⟨m, (l.length : Nat), rfl, rfl⟩, ?_⟩
  have hm : 0 ≤ (if (l.length : Int) < m then (l.length : Int) else m) ∧ (if (l.length : Int) < m then (l.length : Int) else m) ≤ 1000 ∧ (if (l.length : Int) < m then (l.length : Int) else m).toNat = min m.toNat l.length := by
    split <;> omega
  refine ⟨_, rfl, ⟨by omega, by omega⟩, ?_⟩
  have hd : (rangeD 0 (if (l.length : Int) < m then (l.length : Int) else m).toNat).length = min m.toNat l.length := by
    unfold rangeD
    rw [List.length_map, List.length_range]
    exact hm.2.2
  refine pick_loop _ _ l [] n (by omega) (by rw [List.length_nil]; omega) (by omega) (by omega) (by omega) rfl fun out rest' t hp ho => ?_
  show e.rt (.list out) _
  rw [he]
  have h1 : out.length = min m.toNat l.length := by rw [ho, List.length_nil, hd]; omega
  have h2 : n + (rangeD 0 (if (l.length : Int) < m then (l.length : Int) else m).toNat).length ≤ n + 1000 := by rw [hd]; omega
  exact q out rest' _ hp h1 h2
end RM
namespace RM
open PySem PySem.Spec PyProof.Rows L2 CS RZ
/-! ### drawn places -/
def strD (ss : List Str) : List D := ss.map PyData.str
def unS : D → Str
  | .str s => s
  | _ => ⟨#[]⟩
def pool0 : List Str := ["a", "b", "c", "d", "e", "f", "g", "h"]
def pool1 : List Str := ["a", "ab", "abc", "b", "ba", "z", "zzzzzzzz", "y"]
def pool2 : List Str := ["hall", "hal", "desk", "shop", "yard", "gate", "inn", "ford"]
def tagPool : List Str := pool0 ++ pool1 ++ pool2
theorem strD_un {l : List D} {pl : List Str} (h : ∀ d ∈ l, d ∈ strD pl) : strD (l.map unS) = l := by
  unfold strD
  rw [List.map_map]
  refine (List.map_congr_left fun d hd => ?_).trans (List.map_id l)
  obtain ⟨s, _, rfl⟩ := List.mem_map.mp (h d hd)
  rfl
/-- what is picked of texts -/
theorem pick_strs {out rest : List D} {pl : List Str} (hp : (out ++ rest).Perm (strD pl)) (hn : pl.Nodup) : ∃ ss : List Str, out = strD ss ∧ ss.Nodup ∧ (∀ s ∈ ss, s ∈ pl) ∧ ss.length = out.length := by
  have hu : (strD pl).map unS = pl := by
    unfold strD
    rw [List.map_map]
    exact List.map_id' pl
  have hm := hp.map unS
  rw [hu, List.map_append] at hm
  refine ⟨out.map unS, (strD_un fun d hd => hp.mem_iff.mp (List.mem_append_left _ hd)).symm, (List.nodup_append.mp (hm.nodup_iff.mpr hn)).1, fun s hs => hm.mem_iff.mp (List.mem_append_left _ hs), List.length_map ..⟩
theorem pool0_chars : strD pool0 = charsD "abcdefgh" := by
  have h : pool0 = signs "abcdefgh" := by decide +kernel
  rw [h]
  unfold strD charsD signs
  rw [List.map_map]
  rfl
def sdTags : SpD := fun ds n k _ => ∃ m : Int, ds = [boxD, .int m] ∧ n ≤ 700000 ∧ 0 ≤ m ∧ m ≤ 8 ∧ ∀ (ss : List Str) (n' : Nat), ss.length = m.toNat → ss.Nodup → (∀ s ∈ ss, s ∈ tagPool) → n' ≤ n + 1001 → k (.list (strD ss)) n'
def cs_tags : CS := cSq (cSet 2 (cCall sdTake (cCons (cVar 0) (cCons (cC (.int 3)) (cNil))))) (cSq (cIfS (cB (cOp eqD (cVar 2) (cC (.int 0)))) (cRet (cCall sdPick (cCons (cVar 0) (cCons (cC (.str "abcdefgh")) (cCons (cVar 1) (cNil)))))) (cNext)) (cSq (cIfS (cB (cOp eqD (cVar 2) (cC (.int 1)))) (cRet (cCall sdPick (cCons (cVar 0) (cCons (cLst (cCons (cC (.str "a")) (cCons (cC (.str "ab")) (cCons (cC (.str "abc")) (cCons (cC (.str "b")) (cCons (cC (.str "ba")) (cCons (cC (.str "z")) (cCons (cC (.str "zzzzzzzz")) (cCons (cC (.str "y")) (cNil)))))))))) (cCons (cVar 1) (cNil)))))) (cNext)) (cRet (cCall sdPick (cCons (cVar 0) (cCons (cLst (cCons (cC (.str "hall")) (cCons (cC (.str "hal")) (cCons (cC (.str "desk")) (cCons (cC (.str "shop")) (cCons (cC (.str "yard")) (cCons (cC (.str "gate")) (cCons (cC (.str "inn")) (cCons (cC (.str "ford")) (cNil)))))))))) (cCons (cVar 1) (cNil))))))))
abbrev n_tags : List Str := ["_law_box_here", "_law_many_so", "_law_kind_so"]
theorem tag_pick {pl : List Str} {x : D} {m : Int} {n n0 : Nat} {k : D → Nat → Prop} {ke : Xv → Nat → Prop} (hg : gList' [x] (strD pl)) (hl : pl.length = 8) (hn : pl.Nodup) (hp : ∀ s ∈ pl, s ∈ tagPool) (h1 : n ≤ 700001) (m0 : 0 ≤ m) (m1 : m ≤ 8) (e0 : n ≤ n0 + 1)
    (q : ∀ (ss : List Str) (n' : Nat), ss.length = m.toNat → ss.Nodup → (∀ s ∈ ss, s ∈ tagPool) → n' ≤ n0 + 1001 → k (.list (strD ss)) n') : sdPick [boxD, x, .int m] n k ke := by
  refine ⟨x, strD pl, m, rfl, hg, by omega, m0, by omega, by unfold strD; rw [List.length_map]; omega, fun out rest n' hpm ho hn' => ?_⟩
  obtain ⟨ss, rfl, g1, g2, g3⟩ := pick_strs hpm hn
  refine q ss n' ?_ g1 (fun s hs => hp s (g2 s hs)) (by omega)
  rw [g3, ho]
  unfold strD
  rw [List.length_map]
  omega
theorem eqD_int (i j : Int) : eqD (.int i) (.int j) = some (.bool (i == j)) := rfl
theorem himp_tags {e : EndsD} (ds : List D) (n : Nat) (k : D → Nat → Prop) (ke : Xv → Nat → Prop) (h : sdTags ds n k ke) (he : e.rt = k) : cs_tags (startE n_tags ds) n e := by
  obtain ⟨m, rfl, hn, m0, m1, q⟩ := h
  subst he
  refine ⟨3, rfl, by omega, by decide, by decide, fun r r0 r1 => ?_⟩
  refine ⟨_, eqD_int r 0, _, rfl, ?_⟩
  dsimp only
  split
  · exact tag_pick (ke := fun _ _ => False) (pl := pool0) (.inr ⟨"abcdefgh", rfl, by decide, pool0_chars⟩) rfl (by decide +kernel) (fun s hs => List.mem_append_left _ (List.mem_append_left _ hs)) (by omega) m0 m1 (Nat.le_refl _) q
  · refine ⟨_, eqD_int r 1, _, rfl, ?_⟩
    dsimp only
    split
    · refine ⟨by show 8 ≤ lim; decide, ?_⟩
      exact tag_pick (ke := fun _ _ => False) (pl := pool1) (.inl ⟨_, rfl, rfl⟩) rfl (by decide +kernel) (fun s hs => List.mem_append_left _ (List.mem_append_right _ hs)) (by omega) m0 m1 (Nat.le_refl _) q
    · refine ⟨by show 8 ≤ lim; decide, ?_⟩
      exact tag_pick (ke := fun _ _ => False) (pl := pool2) (.inl ⟨_, rfl, rfl⟩) rfl (by decide +kernel) (fun s hs => List.mem_append_right _ hs) (by omega) m0 m1 (Nat.le_refl _) q
end RM
namespace RM
open PySem PySem.Spec PyProof.Rows L2 CS RZ
/-! ### drawn steps -/
def triD (t : Str × Str × Int) : D := .tuple [.str t.1, .str t.2.1, .int t.2.2]
def trisD (l : List (Str × Str × Int)) : List D := l.map triD
def sdStrewn : SpD := fun ds n k _ => ∃ (ss : List Str) (most high : Int), ds = [boxD, .list (strD ss), .int most, .int high] ∧ ss.Nodup ∧ 2 ≤ ss.length ∧ ss.length ≤ 8 ∧ n ≤ 600000 ∧ 0 ≤ most ∧ most ≤ 20 ∧ 0 ≤ high ∧ high < 2 ^ 199 ∧
  ∀ (l : List (Str × Str × Int)) (n' : Nat), l.length ≤ most.toNat → (∀ t ∈ l, t.1 ∈ ss ∧ t.2.1 ∈ ss ∧ t.1 ≠ t.2.1 ∧ 0 ≤ t.2.2 ∧ t.2.2 ≤ high) → n' ≤ n + 30000 → k (.tuple (trisD l)) n'
end RM
namespace RM
open PySem PySem.Spec PyProof.Rows L2 CS RZ
/-! ### a comprehension over a list that this frame alone knows -/
end RM
namespace RM
open PySem PySem.Spec PyProof.Rows L2 CS RZ
/-! ### triples added up -/
abbrev Tri := Str × Str × Int
def pr (t : Tri) : Str × Str := (t.1, t.2.1)
def sumAt (l : List Tri) (p : Str × Str) : Int := ((l.filter fun t => pr t = p).map fun t => t.2.2).sum
def putOne (acc : List (Str × Str)) (p : Str × Str) : List (Str × Str) := if p ∈ acc then acc else acc ++ [p]
def firsts (l : List (Str × Str)) : List (Str × Str) := l.foldl putOne []
theorem firsts_snoc (l : List (Str × Str)) (p : Str × Str) : firsts (l ++ [p]) = putOne (firsts l) p := by
  unfold firsts
  rw [List.foldl_append]
  rfl
theorem mem_putOne {acc : List (Str × Str)} {p q : Str × Str} : q ∈ putOne acc p ↔ q ∈ acc ∨ q = p := by
  unfold putOne
  split
  · rename_i h
    constructor
    · exact .inl
    · rintro (h2 | rfl)
      · exact h2
      · exact h
  · rw [List.mem_append, List.mem_singleton]
theorem nodup_putOne {acc : List (Str × Str)} {p : Str × Str} (h : acc.Nodup) : (putOne acc p).Nodup := by
  unfold putOne
  split
  · exact h
  · rename_i c
    rw [List.nodup_append]
    refine ⟨h, by simp, fun a ha b hb => ?_⟩
    rw [List.mem_singleton] at hb
    subst hb
    exact fun z => c (z ▸ ha)
theorem foldl_put : ∀ (l acc : List (Str × Str)), (∀ q, q ∈ l.foldl putOne acc ↔ q ∈ acc ∨ q ∈ l) ∧ (acc.Nodup → (l.foldl putOne acc).Nodup)
  | [], acc => ⟨fun q => by simp, fun h => h⟩
  | p :: l, acc => by
    obtain ⟨h1, h2⟩ := foldl_put l (putOne acc p)
    refine ⟨fun q => ?_, fun h => h2 (nodup_putOne h)⟩
    rw [List.foldl_cons, h1, mem_putOne, List.mem_cons, or_assoc]
theorem mem_firsts {l : List (Str × Str)} {q : Str × Str} : q ∈ firsts l ↔ q ∈ l := by
  unfold firsts
  rw [(foldl_put l []).1 q]
  simp
theorem nodup_firsts (l : List (Str × Str)) : (firsts l).Nodup := (foldl_put l []).2 List.nodup_nil
theorem sumAt_snoc (l : List Tri) (t : Tri) (q : Str × Str) : sumAt (l ++ [t]) q = sumAt l q + (if pr t = q then t.2.2 else 0) := by
  unfold sumAt
  rw [List.filter_append, List.map_append, List.sum_append]
  congr 1
  by_cases h : pr t = q
  · rw [if_pos h, List.filter_cons_of_pos (by simpa using h)]
    simp
  · rw [if_neg h, List.filter_cons_of_neg (by simpa using h)]
    rfl
theorem sumAt_none {l : List Tri} {q : Str × Str} (h : q ∉ l.map pr) : sumAt l q = 0 := by
  unfold sumAt
  rw [List.filter_eq_nil_iff.mpr]
  · rfl
  · intro t ht
    simp only [decide_eq_true_eq]
    exact fun z => h (z ▸ List.mem_map_of_mem ht)
/-- what is counted: the pairs ascend, their numbers added, without 0 -/
def canon (l : List Tri) : List Tri := (((firsts (l.map pr)).mergeSort leP).filter fun p => 0 < sumAt l p).map fun p => (p.1, p.2, sumAt l p)
/-! the dict -/
end RM
namespace RM
open PySem PySem.Spec PyProof.Rows L2 CS RZ
/-! ### a comprehension whose turns leave the frame as it is -/
theorem lcL_run {cg : CG} {tt : CT} {te : CE} {vs : List Nat} {ρ0 : En} {n : Nat} (f : D → Option D) {k : List D → En → Nat → Prop} : ∀ (ds acc : List D), (∀ d ∈ ds, ∃ ρ1, cg d ρ0 = some ρ1 ∧ wipeE ρ1 vs = ρ0 ∧ (∀ K1 : Bool → En → Nat → Prop, K1 (f d).isSome ρ1 n → tt ρ1 n K1 kF) ∧ ∀ y, f d = some y → ∀ K2 : D → En → Nat → Prop, K2 y ρ1 n → te ρ1 n K2 kF) →
    acc.length + ds.length ≤ lim → k (acc ++ ds.filterMap f) ρ0 n → cLcL cg tt te vs ds ρ0 n acc k
  | [], acc, _, _, q => by simpa [cLcL] using q
  | d :: ds, acc, h, hl, q => by
    obtain ⟨ρ1, h1, h2, h3, h4⟩ := h d (List.mem_cons_self ..)
    rw [List.length_cons] at hl
    refine ⟨ρ1, h1, h3 _ ?_⟩
    cases e : f d with
    | none =>
      show cLcL cg tt te vs ds (wipeE ρ1 vs) n acc k
      rw [h2]
      refine lcL_run f ds acc (fun z hz => h z (List.mem_cons_of_mem _ hz)) (by omega) ?_
      rw [List.filterMap_cons, e] at q
      exact q
    | some y =>
      show te ρ1 n _ kF
      refine h4 y e _ ⟨by omega, ?_⟩
      rw [h2]
      refine lcL_run f ds (acc ++ [y]) (fun z hz => h z (List.mem_cons_of_mem _ hz)) (by rw [List.length_append, List.length_singleton]; omega) ?_
      rw [List.filterMap_cons, e] at q
      rw [List.append_assoc]
      exact q
/-- rows of a triple each, lists or tuples -/
def RowsAre (rows : List D) (l : List Tri) : Prop := rows.map seqD = l.map fun t => some [PyData.str t.1, .str t.2.1, .int t.2.2]
theorem firsts_len (l : List (Str × Str)) : (firsts l).length ≤ l.length := by
  have : ∀ (l acc : List (Str × Str)), (l.foldl putOne acc).length ≤ acc.length + l.length := by
    intro l
    induction l with
    | nil => intro acc; simp
    | cons p l ih =>
      intro acc
      rw [List.foldl_cons, List.length_cons]
      have h1 := ih (putOne acc p)
      have h2 : (putOne acc p).length ≤ acc.length + 1 := by
        unfold putOne
        split
        · omega
        · rw [List.length_append, List.length_singleton]
          exact Nat.le_refl _
      omega
  have := this l []
  unfold firsts
  simpa using this
end RM
namespace RM
open PySem PySem.Spec PyProof.Rows L2 CS RZ
/-! ### what may be compared, by depth -/
def OkN (k : Nat) (d : D) : Prop := plain d = true ∧ d.canLay0 = true ∧ d.depth ≤ k
theorem OkN.ok {k : Nat} {d : D} (h : OkN k d) (hk : k ≤ 64) : okE d = true := by
  unfold okE SeqAt.shaped
  rw [h.1, h.2.1, decide_eq_true (Nat.le_trans h.2.2 hk)]
  rfl
theorem OkN.all {k : Nat} : ∀ {ds : List D}, (∀ d ∈ ds, OkN k d) → plains ds = true ∧ PyData.canLayAll0 ds = true ∧ PyData.depthAll ds ≤ k
  | [], _ => ⟨rfl, by simp [PyData.canLayAll0], by simp [PyData.depthAll]⟩
  | d :: ds, h => by
    obtain ⟨a1, a2, a3⟩ := h d (List.mem_cons_self ..)
    obtain ⟨b1, b2, b3⟩ := OkN.all (ds := ds) fun z hz => h z (List.mem_cons_of_mem _ hz)
    refine ⟨by unfold plains; rw [a1, b1]; rfl, by simp only [PyData.canLayAll0]; rw [a2, b2]; rfl, ?_⟩
    simp only [PyData.depthAll]
    omega
theorem OkN.tuple {k : Nat} {ds : List D} (h : ∀ d ∈ ds, OkN k d) : OkN (k + 1) (.tuple ds) := by
  obtain ⟨b1, b2, b3⟩ := OkN.all h
  exact ⟨by unfold plain; exact b1, by simp only [PyData.canLay0]; exact b2, by simp only [PyData.depth]; omega⟩
theorem OkN.list {k : Nat} {ds : List D} (h : ∀ d ∈ ds, OkN k d) : OkN (k + 1) (.list ds) := by
  obtain ⟨b1, b2, b3⟩ := OkN.all h
  exact ⟨by unfold plain; exact b1, by simp only [PyData.canLay0]; exact b2, by simp only [PyData.depth]; omega⟩
theorem OkN.int (k : Nat) (i : Int) : OkN k (.int i) := ⟨rfl, by simp [PyData.canLay0], by simp [PyData.depth]⟩
def GoodS (s : Str) : Prop := (PyData.str s).canLay0 = true
theorem OkN.str (k : Nat) {s : Str} (h : GoodS s) : OkN k (.str s) := ⟨rfl, h, by simp [PyData.depth]⟩
def GoodP (p : Str × Str) : Prop := GoodS p.1 ∧ GoodS p.2
theorem tag_good : ∀ s ∈ tagPool, GoodS s := by
  intro s hs
  have : ∀ s ∈ tagPool, (PyData.str s).canLay0 = true := by decide +kernel
  exact this s hs
/-! ### by this law's own sums -/
def sdSummed : SpD := fun ds n k _ => ∃ (x : D) (l : List Tri), ds = [x] ∧ seqD x = some (trisD l) ∧ (∀ t ∈ l, GoodP (pr t)) ∧ l.length ≤ 1000 ∧ k (.tuple (trisD (canon l))) n
end RM
namespace RM
open PySem PySem.Spec PyProof.Rows L2 CS RZ
end RM
namespace RM
open PySem PySem.Spec PyProof.Rows L2 CS RZ
/-! ### classes by what they keep -/
section
variable (P : Program) (w : World) (K : PySem.W.Frag) (mg : Str → Option Value) (base : Heap) (g : Glob) (j : Nat)
structure HasE (x : Str) (c : Nat) (ps fs : List Str) : Prop where
  ex : ∃ fI fd, ErrC K (g.cls c) fI fs ∧ FnOk P w K mg base CX0 j fI fd ps (spErr K (g.cls c) fI fs) ∧ Binds K fd ps [] ∧ mg x = some (.ref (g.cls c))
end
section
variable {X : Cx} {g : Glob} {xk : WX} {pos p : Pos} {j k c : Nat} {x m : Str} {ps fs : List Str} {CX : CXT} {e o a b : Expr} {es : List Expr} {ta : CA} {to t1 t2 : CE}
theorem pds_raiseH {pos2 : Pos} (hc : X.calm = true) (h : HasE X.prog X.w X.K X.mg X.base g j x c ps fs) (tk : Takes X xk) (hr : Room k X.A) (l : j + 1 ≤ k) (hg : Gl X x) (ha : PDA X g xk (e :: es) ta) (hn : fs.length ≤ 1000 := by decide) (hdb : (x == ("__debug__" : Str)) = false := by decide)
    (he : starEach (e :: es) X.env = (false, eval e X.env) :: starEach es X.env := by rfl) (hpl : (backTo pos2 (starEach es X.env)).any (·.1) = false := by rfl) : PDS X g xk (.Raise (some (.Call (.Name x p) (e :: es) [] pos2)) none pos) (cRaise c fs ta) := by
  obtain ⟨fI, fd, a, b, d, m⟩ := h.ex
  exact pds_raise hc tk a b (hr.mono l) d hg m ha hn hdb he hpl
end
end RM
namespace RM
open PySem PySem.Spec PyProof.Rows L2 CS RZ
abbrev LtJ (j k : Nat) := j + 1 ≤ k
def cCnt : Nat := 20
def cStill : Nat := 4
def cBelow : Nat := 5
/-! ### Counts, as data -/
def manyD (l : List Tri) : List (D × D) := l.map fun t => (tx (pr t), PyData.int t.2.2)
def cntF (s : Str) (l : List Tri) : List (D × D) := [(.str "_start", .str s), (.str "_steps", .tuple (trisD l)), (.str "_many", .dict ((.none, .bool true) :: manyD l))]
def cntD (s : Str) (l : List Tri) : D := obj cCnt (cntF s l)
def numAt (l : List Tri) (p : Str × Str) : Int := ((l.find? fun t => pr t = p).map fun t => t.2.2).getD 0
/-! properties -/
def sdP_start : SpD := fun ds n k _ => ∃ s l, ds = [cntD s l] ∧ k (.str s) n
/-! numbers of steps -/
def sdSub : SpD := fun ds n k _ => ∃ s l x a b, ds = [cntD s l, x] ∧ seqD x = some [.str a, .str b] ∧ k (.int (numAt l (a, b))) n
end RM
namespace RM
open PySem PySem.Spec PyProof.Rows L2 CS RZ
/-! ### what leads out and in -/
theorem eqD_str {a b : Str} (ha : GoodS a) (hb : GoodS b) : eqD (.str a) (.str b) = some (.bool (decide (a = b))) := by
  unfold eqD
  rw [(OkN.str 0 ha).ok (by decide), (OkN.str 0 hb).ok (by decide), RM.eqv_str]
  rfl
def sdM_outs : SpD := fun ds n k _ => ∃ s l a, ds = [cntD s l, .str a] ∧ GoodS a ∧ (∀ t ∈ l, GoodP (pr t)) ∧ l.length ≤ 1000 ∧ k (.int ((l.filter fun t => t.1 = a).map fun t => t.2.2).sum) n
def sdM_ins : SpD := fun ds n k _ => ∃ s l a, ds = [cntD s l, .str a] ∧ GoodS a ∧ (∀ t ∈ l, GoodP (pr t)) ∧ l.length ≤ 1000 ∧ k (.int ((l.filter fun t => t.2.1 = a).map fun t => t.2.2).sum) n
/-! ### triples that are none -/
def stillT (t : Tri) : Bool := decide (t.1 = t.2.1)
def belowT (t : Tri) : Bool := decide (t.2.2 < 0)
def stillX (t : Tri) : Xv := (cStill, errF ["place"] [.str t.1])
def belowX (t : Tri) : Xv := (cBelow, errF ["one", "other", "number"] [.str t.1, .str t.2.1, .int t.2.2])
/-- what is raised for the triples, if something is -/
def wrongT (l : List Tri) : Option Xv := match l.find? stillT with
  | some t => some (stillX t)
  | none => (l.find? belowT).map belowX
end RM
namespace RM
open PySem PySem.Spec PyProof.Rows L2 CS RZ
/-! ### Counts made -/
theorem canon_pr (l : List Tri) : (canon l).map pr = ((firsts (l.map pr)).mergeSort leP).filter fun p => 0 < sumAt l p := by
  unfold canon
  rw [List.map_map]
  exact List.map_id' _
theorem canon_nodup (l : List Tri) : ((canon l).map pr).Nodup := by
  rw [canon_pr]
  exact ((List.mergeSort_perm _ _).nodup_iff.mpr (nodup_firsts _)).sublist List.filter_sublist
theorem canon_len (l : List Tri) : (canon l).length ≤ l.length := by
  have h1 := congrArg List.length (canon_pr l)
  rw [List.length_map] at h1
  have h2 := List.length_filter_le (fun p => decide (0 < sumAt l p)) ((firsts (l.map pr)).mergeSort leP)
  rw [List.length_mergeSort] at h2
  have h3 := firsts_len (l.map pr)
  rw [List.length_map] at h3
  omega
theorem canon_mem {l : List Tri} {t : Tri} (h : t ∈ canon l) : pr t ∈ l.map pr ∧ 0 < t.2.2 ∧ t.2.2 = sumAt l (pr t) := by
  unfold canon at h
  obtain ⟨p, hp, rfl⟩ := List.mem_map.mp h
  obtain ⟨h1, h2⟩ := List.mem_filter.mp hp
  exact ⟨mem_firsts.mp ((List.mergeSort_perm _ _).mem_iff.mp h1), of_decide_eq_true h2, rfl⟩
def sdInit : SpI := fun ds n k ke => ∃ (s : Str) (x : D) (rows : List D) (l : List Tri), ds = [.str s, x] ∧ seqD x = some rows ∧ RowsAre rows l ∧ (∀ t ∈ l, GoodP (pr t)) ∧ l.length ≤ 1000 ∧ match wrongT l with
  | some y => ke y n
  | none => k (cntF s (canon l)) n
/-! + and - -/
def leftT (l l2 : List Tri) : List Tri := l.map fun t => (t.1, t.2.1, t.2.2 - numAt l2 (pr t))
end RM
namespace PySem.W
open PySem PySem.Spec PyProof.Rows
end PySem.W
namespace RM
open PySem PySem.Spec PyProof.Rows L2 CS RZ
/-! ### x op= e of an own class without in-place methods -/
section
variable {X : Cx} {g : Glob} {xk : WX} {pos pos' p : Pos} {j k c i : Nat} {x : Str} {ps : List Str} {e : Expr} {te : CE}
/-! isinstance of an own class -/
def kindD : D → Option String
  | .none => some "NoneType"
  | .bool _ => some "bool"
  | .int _ => some "int"
  | .str _ => some "str"
  | .list _ => some "list"
  | .tuple _ => some "tuple"
  | .dict _ => none
def kinds : List String := ["NoneType", "bool", "int", "str", "list", "tuple"]
theorem kind_mem {d : D} {t : String} (h : kindD d = some t) : t ∈ kinds := by
  cases d <;> cases h <;> decide
theorem kind_ty {T : Tab} {H : Hp} {v : V} {d : D} {t : String} (h : Is T H v d) (e : kindD d = some t) : TyX T.K H v (.type t) := by
  cases h with
  | lst h r =>
    cases e
    exact .base (.lst h)
  | tup h r =>
    cases e
    rcases h with (h | ⟨o, h⟩) | ⟨o, its, n, h, hc, _⟩
    · exact .base (.tup h)
    · exact .fTuple h
    · exact .kTuple h hc
  | non => cases e; exact .base .non
  | bl b => cases e; exact .base (.bl b)
  | int b => cases e; exact .base (.int b)
  | str b => cases e; exact .base (.str b)
  | _ => cases e
/-! x[::-1] -/
end
end RM
namespace RM
open PySem PySem.Spec PyProof.Rows L2 CS RZ
/-! ### an object made with its last argument left out -/
def cMake1 (c : Nat) (sd : SpI) (d0 : D) (ta : CA) : CE := fun ρ n k ke => ta ρ n (fun ds ρ1 n1 => sd (ds ++ [d0]) n1 (fun fs n2 => k (obj c fs) ρ1 n2) (fun y n2 => ke y ρ1 n2)) ke
end RM
namespace RM
open PySem PySem.Spec PyProof.Rows L2 CS RZ
/-! ### dict of a list of pairs, keys of text, none twice -/
end RM
namespace RM
open PySem PySem.Spec PyProof.Rows L2 CS RZ
/-! ### a comprehension with two walks -/
end RM
namespace RM
open PySem PySem.Spec PyProof.Rows L2 CS RZ
end RM
namespace RM
open PySem PySem.Spec PyProof.Rows L2 CS RZ
/-! ### own == and in as tests -/
end RM
namespace RM
open PySem PySem.Spec PyProof.Rows L2 CS RZ
/-! ### Counts that are equal -/
def sdEq : SpD := fun ds n k _ => ∃ s l y, ds = [cntD s l, y] ∧ GoodS s ∧ (∀ t ∈ l, GoodP (pr t)) ∧ ((∃ s2 l2, y = cntD s2 l2 ∧ GoodS s2 ∧ (∀ t ∈ l2, GoodP (pr t)) ∧ k (.bool (decide (s = s2 ∧ l = l2))) n) ∨ ((∃ t, kindD y = some t) ∧ k (.bool false) n))
/-! ### surplus -/
def putS (ns : List Str) (a : Str) : List Str := if a ∈ ns then ns else ns ++ [a]
def over (l : List Tri) (p : Str) : Int := ((l.filter fun t => t.1 = p).map fun t => t.2.2).sum - ((l.filter fun t => t.2.1 = p).map fun t => t.2.2).sum
def ends (l : List Tri) (p : Str) : Prop := ∃ t ∈ l, t.1 = p ∨ t.2.1 = p
theorem mem_putS {ns : List Str} {a p : Str} : p ∈ putS ns a ↔ p ∈ ns ∨ p = a := by
  unfold putS
  split
  · rename_i h
    exact ⟨.inl, fun z => z.elim id fun e => e ▸ h⟩
  · rw [List.mem_append, List.mem_singleton]
theorem nodup_putS {ns : List Str} {a : Str} (h : ns.Nodup) : (putS ns a).Nodup := by
  unfold putS
  split
  · exact h
  · rename_i c
    rw [List.nodup_append]
    refine ⟨h, by simp, fun x hx y hy => ?_⟩
    rw [List.mem_singleton] at hy
    subst hy
    exact fun z => c (z ▸ hx)
theorem len_putS (ns : List Str) (a : Str) : (putS ns a).length ≤ ns.length + 1 := by
  unfold putS
  split
  · omega
  · rw [List.length_append, List.length_singleton]
    exact Nat.le_refl _
end RM
namespace RM
open PySem PySem.Spec PyProof.Rows L2 CS RZ
/-! ### what canon tells -/
def Fine (l : List Tri) : Prop := ∀ t ∈ l, t.1 ≠ t.2.1 ∧ 0 ≤ t.2.2
theorem sumAt_append (l m : List Tri) (p : Str × Str) : sumAt (l ++ m) p = sumAt l p + sumAt m p := by
  unfold sumAt
  rw [List.filter_append, List.map_append, List.sum_append]
theorem sumAt_nil (p : Str × Str) : sumAt [] p = 0 := rfl
theorem sumAt_cons (t : Tri) (l : List Tri) (p : Str × Str) : sumAt (t :: l) p = (if pr t = p then t.2.2 else 0) + sumAt l p := by
  have := sumAt_append [t] l p
  rw [List.singleton_append] at this
  rw [this]
  congr 1
  have h2 := sumAt_snoc [] t p
  rw [List.nil_append, sumAt_nil, Int.zero_add] at h2
  exact h2
theorem sumAt_nonneg {l : List Tri} (h : ∀ t ∈ l, 0 ≤ t.2.2) (p : Str × Str) : 0 ≤ sumAt l p := by
  induction l with
  | nil => exact Int.le_refl 0
  | cons t l ih =>
    rw [sumAt_cons]
    have h1 := ih fun z hz => h z (List.mem_cons_of_mem _ hz)
    have h2 := h t (List.mem_cons_self ..)
    split <;> omega
theorem sumAt_in {l : List Tri} {p : Str × Str} (h : sumAt l p ≠ 0) : p ∈ l.map pr := Decidable.byContradiction fun c => h (sumAt_none c)
theorem numAt_cons (t : Tri) (l : List Tri) (p : Str × Str) : numAt (t :: l) p = if pr t = p then t.2.2 else numAt l p := by
  unfold numAt
  rw [List.find?_cons]
  by_cases c : pr t = p
  · rw [decide_eq_true c, if_pos c]
    rfl
  · rw [decide_eq_false c, if_neg c]
theorem numAt_sum {l : List Tri} (hn : (l.map pr).Nodup) (p : Str × Str) : numAt l p = sumAt l p := by
  induction l with
  | nil => rfl
  | cons t l ih =>
    rw [List.map_cons, List.nodup_cons] at hn
    rw [sumAt_cons]
    unfold numAt
    rw [List.find?_cons]
    by_cases c : pr t = p
    · rw [decide_eq_true c, if_pos c, sumAt_none (c ▸ hn.1), Int.add_zero]
      rfl
    · rw [decide_eq_false c, if_neg c, Int.zero_add]
      exact ih hn.2
theorem sumAt_canon (l : List Tri) (p : Str × Str) : sumAt (canon l) p = if 0 < sumAt l p then sumAt l p else 0 := by
  by_cases c : p ∈ (canon l).map pr
  · obtain ⟨t, ht, rfl⟩ := List.mem_map.mp c
    obtain ⟨h1, h2, h3⟩ := canon_mem ht
    rw [← numAt_sum (canon_nodup l)]
    unfold numAt
    have : (canon l).find? (fun u => pr u = pr t) = some t := by
      have hn := canon_nodup l
      generalize canon l = m at ht hn
      induction m with
      | nil => cases ht
      | cons u m ih =>
        rw [List.find?_cons]
        by_cases e : u = t
        · subst e
          rw [decide_eq_true rfl]
        · rcases List.mem_cons.mp ht with z | z
          · exact absurd z.symm e
          · rw [List.map_cons, List.nodup_cons] at hn
            have hne : ¬ pr u = pr t := fun w => hn.1 (by rw [w]; exact List.mem_map_of_mem z)
            rw [decide_eq_false hne]
            exact ih z hn.2
    rw [this]
    show t.2.2 = _
    rw [← h3, if_pos h2]
  · rw [sumAt_none c, if_neg]
    intro z
    refine c ?_
    rw [canon_pr, List.mem_filter]
    exact ⟨(List.mergeSort_perm _ _).mem_iff.mpr (mem_firsts.mpr (sumAt_in (by omega))), decide_eq_true z⟩
theorem sumAt_canon' {l : List Tri} (h : Fine l) (p : Str × Str) : sumAt (canon l) p = sumAt l p := by
  rw [sumAt_canon]
  have := sumAt_nonneg (fun t ht => (h t ht).2) p
  split <;> omega
theorem fine_canon {l : List Tri} (h : Fine l) : Fine (canon l) := fun t ht => by
  obtain ⟨h1, h2, _⟩ := canon_mem ht
  obtain ⟨u, hu, he⟩ := List.mem_map.mp h1
  refine ⟨fun z => (h u hu).1 ?_, by omega⟩
  have e1 : (pr u).1 = (pr t).1 := by rw [he]
  have e2 : (pr u).2 = (pr t).2 := by rw [he]
  change u.1 = t.1 at e1
  change u.2.1 = t.2.1 at e2
  rw [e1, e2, z]
end RM
namespace RM
open PySem PySem.Spec PyProof.Rows L2 CS RZ
/-! ### the promises, as they are used where nothing is raised -/
def GoodL (l : List Tri) : Prop := ∀ t ∈ l, GoodP (pr t)
theorem good_canon {l : List Tri} (h : GoodL l) : GoodL (canon l) := fun t ht => by
  obtain ⟨h1, _⟩ := canon_mem ht
  obtain ⟨u, hu, he⟩ := List.mem_map.mp h1
  rw [← he]
  exact h u hu
/-! ### the places -/
def sdP_places : SpD := fun ds n k _ => ∃ s l, ds = [cntD s l] ∧ l.length ≤ 30 ∧ ∀ ys : List Str, ys.Nodup → (∀ p, p ∈ ys ↔ p = s ∨ ends l p) → sortedS ys = true → k (.tuple (strD ys)) n
end RM
namespace RM
open PySem PySem.Spec PyProof.Rows L2 CS RZ
/-! ### sums over the places -/
def outsT (l : List Tri) (a : Str) : Int := ((l.filter fun t => t.1 = a).map fun t => t.2.2).sum
def insT (l : List Tri) (a : Str) : Int := ((l.filter fun t => t.2.1 = a).map fun t => t.2.2).sum
theorem outsT_cons (t : Tri) (l : List Tri) (a : Str) : outsT (t :: l) a = (if t.1 = a then t.2.2 else 0) + outsT l a := by
  unfold outsT
  rw [List.filter_cons]
  by_cases c : t.1 = a
  · rw [if_pos (decide_eq_true c), if_pos c, List.map_cons, List.sum_cons]
  · rw [if_neg (by simpa using c), if_neg c, Int.zero_add]
theorem insT_cons (t : Tri) (l : List Tri) (a : Str) : insT (t :: l) a = (if t.2.1 = a then t.2.2 else 0) + insT l a := by
  unfold insT
  rw [List.filter_cons]
  by_cases c : t.2.1 = a
  · rw [if_pos (decide_eq_true c), if_pos c, List.map_cons, List.sum_cons]
  · rw [if_neg (by simpa using c), if_neg c, Int.zero_add]
/-- a sum that one member alone gives -/
theorem sum_one {ys : List Str} (hn : ys.Nodup) (b : Str) (c : Int) : (ys.map fun y => if b = y then c else 0).sum = if b ∈ ys then c else 0 := by
  induction ys with
  | nil => rfl
  | cons y ys ih =>
    rw [List.nodup_cons] at hn
    rw [List.map_cons, List.sum_cons, ih hn.2]
    by_cases e : b = y
    · subst e
      rw [if_pos rfl, if_neg hn.1, if_pos (List.mem_cons_self ..), Int.add_zero]
    · rw [if_neg e, Int.zero_add]
      by_cases m : b ∈ ys
      · rw [if_pos m, if_pos (List.mem_cons_of_mem _ m)]
      · rw [if_neg m, if_neg fun z => (List.mem_cons.mp z).elim e m]
theorem sum_add (ys : List Str) (f g : Str → Int) : (ys.map fun y => f y + g y).sum = (ys.map f).sum + (ys.map g).sum := by
  induction ys with
  | nil => rfl
  | cons y ys ih =>
    rw [List.map_cons, List.map_cons, List.map_cons, List.sum_cons, List.sum_cons, List.sum_cons, ih]
    omega
theorem sum_zero (ys : List Str) : (ys.map fun _ => (0 : Int)).sum = 0 := by
  induction ys with
  | nil => rfl
  | cons y ys ih => rw [List.map_cons, List.sum_cons, ih]; rfl
theorem sum_outs {ys : List Str} (hn : ys.Nodup) (a : Str) : ∀ l : List Tri, (∀ p, ends l p → p ∈ ys) → (ys.map fun y => sumAt l (a, y)).sum = outsT l a
  | [], _ => sum_zero ys
  | t :: l, h => by
    have ih := sum_outs hn a l fun p ⟨u, hu, z⟩ => h p ⟨u, List.mem_cons_of_mem _ hu, z⟩
    rw [outsT_cons, ← ih]
    have : (fun y => sumAt (t :: l) (a, y)) = fun y => (if t.2.1 = y then (if t.1 = a then t.2.2 else 0) else 0) + sumAt l (a, y) := by
      funext y
      rw [sumAt_cons]
      congr 1
      by_cases c1 : t.1 = a
      · by_cases c2 : t.2.1 = y
        · rw [if_pos (show pr t = (a, y) by rw [← c1, ← c2]; rfl), if_pos c2, if_pos c1]
        · rw [if_neg (show ¬ pr t = (a, y) from fun z => c2 (congrArg Prod.snd (show (t.1, t.2.1) = (a, y) from z))), if_neg c2]
      · rw [if_neg (show ¬ pr t = (a, y) from fun z => c1 (congrArg Prod.fst (show (t.1, t.2.1) = (a, y) from z))), if_neg c1]
        split <;> rfl
    rw [this, sum_add, sum_one hn, if_pos (h _ ⟨t, List.mem_cons_self .., .inr rfl⟩)]
theorem sum_ins {ys : List Str} (hn : ys.Nodup) (a : Str) : ∀ l : List Tri, (∀ p, ends l p → p ∈ ys) → (ys.map fun y => sumAt l (y, a)).sum = insT l a
  | [], _ => sum_zero ys
  | t :: l, h => by
    have ih := sum_ins hn a l fun p ⟨u, hu, z⟩ => h p ⟨u, List.mem_cons_of_mem _ hu, z⟩
    rw [insT_cons, ← ih]
    have : (fun y => sumAt (t :: l) (y, a)) = fun y => (if t.1 = y then (if t.2.1 = a then t.2.2 else 0) else 0) + sumAt l (y, a) := by
      funext y
      rw [sumAt_cons]
      congr 1
      by_cases c1 : t.2.1 = a
      · by_cases c2 : t.1 = y
        · rw [if_pos (show pr t = (y, a) by rw [← c1, ← c2]; rfl), if_pos c2, if_pos c1]
        · rw [if_neg (show ¬ pr t = (y, a) from fun z => c2 (congrArg Prod.fst (show (t.1, t.2.1) = (y, a) from z))), if_neg c2]
      · rw [if_neg (show ¬ pr t = (y, a) from fun z => c1 (congrArg Prod.snd (show (t.1, t.2.1) = (y, a) from z))), if_neg c1]
        split <;> rfl
    rw [this, sum_add, sum_one hn, if_pos (h _ ⟨t, List.mem_cons_self .., .inl rfl⟩)]
end RM
namespace RM
open PySem PySem.Spec PyProof.Rows L2 CS RZ
/-! ### texts in order -/
def leS (a b : Str) : Prop := a.cps.toList ≤ b.cps.toList
theorem leS_anti {a b : Str} (h : leS a b) (h2 : leS b a) : a = b := PySem.W.str_of_cps (List.le_antisymm h h2)
theorem leS_trans {a b c : Str} (h : leS a b) (h2 : leS b c) : leS a c := List.le_trans h h2
theorem not_lt {a b : Str} (h : ltCps b.cps.toList a.cps.toList = false) : leS a b := by
  rw [ltCps_eq, decide_eq_false_iff_not] at h
  exact List.not_lt.mp h
theorem rising_pw : ∀ (p : Str) (l : List Str), risingS p l = true → (p :: l).Pairwise leS
  | p, [], _ => List.pairwise_singleton _ _
  | p, x :: r, h => by
    have h' : (!ltCps x.cps.toList p.cps.toList && risingS x r) = true := h
    rw [Bool.and_eq_true] at h'
    have ih := rising_pw x r h'.2
    have hx : leS p x := not_lt (by simpa using h'.1)
    rw [List.pairwise_cons] at ih ⊢
    refine ⟨fun y hy => ?_, List.pairwise_cons.mpr ih⟩
    rcases List.mem_cons.mp hy with rfl | hy
    · exact hx
    · exact leS_trans hx (ih.1 y hy)
theorem sorted_pw {l : List Str} (h : sortedS l = true) : l.Pairwise leS := by
  cases l with
  | nil => exact .nil
  | cons x r => exact rising_pw x r h
theorem sorted_one {ys zs : List Str} (h1 : ys.Pairwise leS) (h2 : zs.Pairwise leS) (n1 : ys.Nodup) (n2 : zs.Nodup) (hm : ∀ p, p ∈ ys ↔ p ∈ zs) : ys = zs :=
  List.Perm.eq_of_pairwise (le := leS) (fun a b _ _ x y => leS_anti x y) h1 h2 ((List.perm_ext_iff_of_nodup n1 n2).mpr hm)
/-! ### what comes next to a place -/
theorem canon_pw (l : List Tri) : (canon l).Pairwise fun t u => leP (pr t) (pr u) = true := by
  have h : ((canon l).map pr).Pairwise fun a b => leP a b = true := by
    rw [canon_pr]
    exact (PySem.W.sort_pairwise leP_total _).sublist List.filter_sublist
  exact List.pairwise_map.mp h
end RM
namespace RM
open PySem PySem.Spec PyProof.Rows L2 CS RZ
/-! ### k08: a turn -/
def okS : Nat → D → Prop
  | 0, _ => False
  | _ + 1, .int _ => True
  | _ + 1, .str _ => True
  | _ + 1, .bool _ => True
  | _ + 1, .none => True
  | n + 1, .list ds => ds.length ≤ 1000 ∧ ∀ d ∈ ds, okS n d
  | n + 1, .tuple ds => ds.length ≤ 1000 ∧ ∀ d ∈ ds, okS n d
  | _ + 1, _ => False
/-- alike with itself -/
def sdSame : SpD := fun ds n k _ => ∃ x, ds = [x, x] ∧ okS 4 x ∧ k (.bool true) n
def r1 : CS := cSet 2 (cCall sdTags (cCons (cVar 0) (cCons (cOp addD (cC (.int 2)) (cCall sdTake (cCons (cVar 0) (cCons (cC (.int 5)) (cNil))))) (cNil))))
def r2 : CS := cPar 6 7 (cCons (cCall sdOf (cCons (cVar 0) (cCons (cVar 2) (cNil)))) (cCons (cCall sdStrewn (cCons (cVar 0) (cCons (cVar 2) (cCons (cC (.int 9)) (cCons (cCall sdOf (cCons (cVar 0) (cCons (cLst (cCons (cC (.int 1)) (cCons (cC (.int 3)) (cCons (cOp powD (cC (.int 10)) (cC (.int 28))) (cNil))))) (cNil)))) (cNil)))))) (cNil)))
def r3 : CS := cSet 3 (cMake cCnt sdInit (cCons (cVar 6) (cCons (cVar 7) (cNil))))
def r5 : CS := cPar 8 9 (cCons (cMake1 cCnt sdInit (.tuple []) (cCons (cVar 6) (cNil))) (cCons (cVar 3) (cNil)))
def r7 : CS := cIfS (cOrT (cNotT (cB (cEqO sdEq (cVar 8) (cVar 3) cCnt))) (cB (cOp neD (cProp sdP_start (cVar 8) cCnt) (cVar 6)))) (cRet (cC (.bool false))) (cNext)
def q1 : CS := cOwn 10 (cLc (cSeq (cProp sdP_places (cVar 3) cCnt)) (stN 13) (cYes) (cSubO sdSub (cVar 3) (cTup (cCons (cVar 5) (cCons (cVar 13) (cNil)))) cCnt) [13])
def q2 : CS := cOwn 11 (cLc (cSeq (cProp sdP_places (cVar 3) cCnt)) (stN 13) (cYes) (cSubO sdSub (cVar 3) (cTup (cCons (cVar 13) (cCons (cVar 5) (cNil)))) cCnt) [13])
def q3 : CS := cIfS (cNotT (cB (cCall sdSame (cCons (cLst (cCons (cCB gSum (cCons (cVar 10) (cNil))) (cCons (cCB gSum (cCons (cVar 11) (cNil))) (cNil)))) (cCons (cLst (cCons (cMeth sdM_outs (cVar 3) (cCons (cVar 5) (cNil)) cCnt "outs") (cCons (cMeth sdM_ins (cVar 3) (cCons (cVar 5) (cNil)) cCnt "ins") (cNil)))) (cNil)))))) (cRet (cC (.bool false))) (cNext)
def q5 : CS := cIfS (cB (cOp neD (cOp subD (cMeth sdM_outs (cVar 3) (cCons (cVar 5) (cNil)) cCnt "outs") (cMeth sdM_ins (cVar 3) (cCons (cVar 5) (cNil)) cCnt "ins")) (cVar 12))) (cRet (cC (.bool false))) (cNext)
section
variable {e : EndsD} {n : Nat} {t1 t2 t3 t4 t5 t6 t7 t8 t9 t10 t11 t12 t13 : Option Sl}
theorem strD_len (ss : List Str) : (strD ss).length = ss.length := by unfold strD; rw [List.length_map]
end
end RM
namespace RM
open PySem PySem.Spec PyProof.Rows L2 CS RZ
section
variable {e : EndsD} {n : Nat} {t1 t2 t3 t4 t5 t6 t7 t8 t9 t10 t11 t12 t13 : Option Sl}
theorem neD_str {a b : Str} (ha : GoodS a) (hb : GoodS b) : neD (.str a) (.str b) = some (.bool (!decide (a = b))) := by
  unfold neD
  rw [(OkN.str 0 ha).ok (by decide), (OkN.str 0 hb).ok (by decide), RM.eqv_str]
  rfl
end
end RM
namespace RM
open PySem PySem.Spec PyProof.Rows L2 CS RZ
theorem OkN.strs {ys : List Str} (h : ∀ y ∈ ys, GoodS y) : OkN 1 (.tuple (strD ys)) := OkN.tuple fun d hd => by
  obtain ⟨y, hy, rfl⟩ := List.mem_map.mp hd
  exact .str 0 (h y hy)
theorem neD_int (i j : Int) : neD (.int i) (.int j) = some (.bool (!(i == j))) := rfl
/-- what is known of the places that are told -/
structure Pl (f : Str) (L : List Tri) (ys : List Str) : Prop where
  nd : ys.Nodup
  mem : ∀ p, p ∈ ys ↔ p = f ∨ ends L p
  pw : ys.Pairwise leS
/-- what is known of what is counted -/
structure Ct (f : Str) (L : List Tri) : Prop where
  gf : GoodS f
  g : GoodL L
  fine : Fine L
  len : L.length ≤ 9
  nd : (L.map pr).Nodup
  pw : L.Pairwise fun t u => leP (pr t) (pr u) = true
theorem Pl.good {f : Str} {L : List Tri} {ys : List Str} (h : Pl f L ys) (c : Ct f L) : ∀ y ∈ ys, GoodS y := fun y hy => by
  rcases (h.mem y).mp hy with rfl | ⟨t, ht, rfl | rfl⟩
  · exact c.gf
  · exact (c.g t ht).1
  · exact (c.g t ht).2
theorem Pl.one {f : Str} {L : List Tri} {ys zs : List Str} (h : Pl f L ys) (h2 : Pl f L zs) : ys = zs := sorted_one h.pw h2.pw h.nd h2.nd fun p => (h.mem p).trans (h2.mem p).symm
theorem nodup_len : ∀ {ys zs : List Str}, ys.Nodup → (∀ y ∈ ys, y ∈ zs) → ys.length ≤ zs.length
  | [], _, _, _ => Nat.zero_le _
  | y :: ys, zs, hn, h => by
    have hy := h y (List.mem_cons_self ..)
    have hc := List.nodup_cons.mp hn
    have ih := nodup_len (ys := ys) (zs := zs.erase y) hc.2 fun z hz => (List.mem_erase_of_ne fun (e : z = y) => hc.1 (e ▸ hz)).mpr (h z (List.mem_cons_of_mem _ hz))
    rw [List.length_erase_of_mem hy] at ih
    have := List.length_pos_of_mem hy
    rw [List.length_cons]
    omega
theorem Pl.len {f : Str} {L : List Tri} {ys : List Str} (h : Pl f L ys) (c : Ct f L) : ys.length ≤ 100 := by
  have := nodup_len (zs := f :: (L.map (fun t => t.1) ++ L.map fun t => t.2.1)) h.nd fun y hy => by
    rcases (h.mem y).mp hy with rfl | ⟨t, ht, rfl | rfl⟩
    · exact List.mem_cons_self ..
    · exact List.mem_cons_of_mem _ (List.mem_append_left _ (List.mem_map.mpr ⟨t, ht, rfl⟩))
    · exact List.mem_cons_of_mem _ (List.mem_append_right _ (List.mem_map.mpr ⟨t, ht, rfl⟩))
  have lc := c.len
  rw [List.length_cons, List.length_append, List.length_map, List.length_map] at this
  omega
end RM
namespace RM
open PySem PySem.Spec PyProof.Rows L2 CS RZ
end RM
namespace RM
open PySem PySem.Spec PyProof.Rows L2 CS RZ
abbrev n_law_right : List Str := ["_law_box_here", "_law_turn", "_law_tags_here", "_law_made", "_law_own", "_law_tag", "_law_first_so", "_law_rows_so", "_law_sum_so", "_law_left_so", "_law_far_so", "_law_near_so", "_law_over_so", "_law_far"]
end RM
namespace RM
open PySem PySem.Spec PyProof.Rows L2 CS RZ
/-! ### k08 by hand -/
theorem firsts_id : ∀ (l m : List (Str × Str)), (m ++ l).Nodup → firsts m = m → firsts (m ++ l) = m ++ l
  | [], m, _, h => by rwa [List.append_nil]
  | p :: l, m, hn, h => by
    have e : m ++ p :: l = (m ++ [p]) ++ l := by rw [List.append_assoc]; rfl
    rw [e] at hn ⊢
    refine firsts_id l (m ++ [p]) hn ?_
    rw [firsts_snoc, h]
    unfold putOne
    rw [if_neg]
    intro z
    have := (List.nodup_append.mp hn).1
    exact (List.nodup_append.mp this).2.2 p z p (by simp) rfl
theorem canon_id {l : List Tri} (hn : (l.map pr).Nodup) (hp : (l.map pr).Pairwise fun a b => leP a b = true) (h0 : ∀ t ∈ l, 0 < t.2.2) : canon l = l := by
  have e1 : firsts (l.map pr) = l.map pr := firsts_id (l.map pr) [] (by simpa using hn) rfl
  have hs : ∀ t ∈ l, sumAt l (pr t) = t.2.2 := fun t ht => by
    rw [← numAt_sum hn]
    induction l with
    | nil => cases ht
    | cons u l ih =>
      rw [numAt_cons]
      rw [List.map_cons, List.nodup_cons] at hn
      rcases List.mem_cons.mp ht with rfl | ht
      · rw [if_pos rfl]
      · have hne : ¬ pr u = pr t := fun w => hn.1 (by rw [w]; exact List.mem_map_of_mem ht)
        rw [if_neg hne]
        rw [List.map_cons, List.pairwise_cons] at hp
        exact ih hn.2 hp.2 (fun z hz => h0 z (List.mem_cons_of_mem _ hz)) (firsts_id (l.map pr) [] (by simpa using hn.2) rfl) ht
  unfold canon
  rw [e1, List.mergeSort_of_pairwise hp, List.filter_eq_self.mpr fun p hp => ?_]
  · rw [List.map_map]
    refine (List.map_congr_left fun t ht => ?_).trans (List.map_id l)
    show (t.1, t.2.1, sumAt l (pr t)) = t
    rw [hs t ht]
  · obtain ⟨t, ht, rfl⟩ := List.mem_map.mp hp
    rw [hs t ht]
    exact decide_eq_true (h0 t ht)
def sdByHand : SpD := fun ds n k _ => ds = [] ∧ k (.bool true) n
end RM
namespace RM
open PySem PySem.Spec PyProof.Rows L2 CS RZ
/-! ### from the bare heap to data -/
theorem ev_bare {C : Ctx} {n : Nat} {H : Hp} (hB : C.B = fun _ => none) (h0 : C.H0 = H) (hz : ∀ a, C.Z a → C.T.bx = some a) (hb : ∀ b, C.T.bx = some b → C.Z b ∧ BoxAt H b n) : Ev C [] n [] H now := by
  refine ⟨rfl, fun i d h => by simp at h, fun i d h => by simp at h, fun i p h => (by cases h), fun i j p h => (by cases h), fun a z => ?_, fun a xs z e => ?_, fun a o h _ => h0 ▸ h, hb, fun p hp i q d h => (by cases h), fun a o h => ?_⟩
  · obtain ⟨A, B, F, e, _⟩ := (hb a (hz a z)).2
    exact ⟨_, h0 ▸ e⟩
  · obtain ⟨A, B, F, e2, _⟩ := (hb a (hz a z)).2
    rw [h0, e2] at e
    cases e
  · rw [hB] at h
    cases h
theorem hand_imp {g : Glob} {vs : List V} {H : Hp} {Q : VK} {E : XK} (h : vs = [] ∧ ∀ H' : Hp, Same H H' → Q (.bl true) H') : spD g sdByHand vs H Q E := by
  obtain ⟨rfl, q⟩ := h
  refine ⟨{ T := ⟨g.K, g.cls, none⟩, Z := fun _ => False, H0 := H }, [], 0, fun d _ => d = .bool true, fun _ _ => False, ⟨rfl, rfl⟩, rfl, ev_bare rfl rfl (fun a z => z.elim) (fun b' h => by cases h), .nil, ⟨rfl, rfl⟩, fun d n' v H' hd F i => ?_, fun _ _ _ _ _ h => h.elim⟩
  subst hd
  rw [isBl i]
  exact q H' fun c o ho => F.keep c o ho (by intro z; cases z)
/-- deep likeness, told of data -/
theorem same_imp {g : Glob} {vs : List V} {H : Hp} {Q : VK} {E : XK} (hk : ∀ d, okS 4 d → plain d = true) (h : spD g sdSame vs H Q E) : ∃ (x y : V) (d : D), vs = [x, y] ∧ Dp g.K H x d ∧ Dp g.K H y d ∧ okS 4 d ∧ ∀ H' : Hp, Same H H' → Q (.bl true) H' := by
  obtain ⟨C, ds, n, k, ke, hK, e0, E0, i, ⟨x, rfl, ok, s⟩, q, _⟩ := h
  obtain ⟨v, u, rfl, iv, iu⟩ := i.two
  refine ⟨v, u, x, rfl, hK.1 ▸ (iv.same hid_le).dp (hk x ok), hK.1 ▸ (iu.same hid_le).dp (hk x ok), ok, fun H' s' => q _ _ _ _ s ⟨fun a o h _ => s' _ _ (e0 ▸ h), fun b hb => (E0.box b hb).2.same s'⟩ (.bl true)⟩
theorem okS_plain : ∀ (n : Nat) (d : D), okS n d → plain d = true
  | 0, _, h => h.elim
  | _ + 1, .none, _ => rfl
  | _ + 1, .bool _, _ => rfl
  | _ + 1, .int _, _ => rfl
  | _ + 1, .str _, _ => rfl
  | n + 1, .list ds, h => by
    unfold plain
    have : ∀ l : List D, (∀ d ∈ l, okS n d) → plains l = true := by
      intro l
      induction l with
      | nil => intro _; rfl
      | cons d l ih =>
        intro hh
        unfold plains
        rw [okS_plain n d (hh d (List.mem_cons_self ..)), ih fun z hz => hh z (List.mem_cons_of_mem _ hz)]
        rfl
    exact this ds h.2
  | n + 1, .tuple ds, h => by
    unfold plain
    have : ∀ l : List D, (∀ d ∈ l, okS n d) → plains l = true := by
      intro l
      induction l with
      | nil => intro _; rfl
      | cons d l ih =>
        intro hh
        unfold plains
        rw [okS_plain n d (hh d (List.mem_cons_self ..)), ih fun z hz => hh z (List.mem_cons_of_mem _ hz)]
        rfl
    exact this ds h.2
  | _ + 1, .dict _, h => h.elim
end RM
namespace K68
open PySem PySem.Spec PyProof.Rows L2 CS RM
theorem okS_okD : ∀ (n : Nat) (d : PyData), okS n d → okD n d
  | 0, _, h => h.elim
  | _ + 1, .none, _ => trivial
  | _ + 1, .bool _, _ => trivial
  | _ + 1, .int _, _ => trivial
  | _ + 1, .str _, _ => trivial
  | n + 1, .list ds, h => ⟨h.1, fun d hd => okS_okD n d (h.2 d hd)⟩
  | n + 1, .tuple ds, h => ⟨h.1, fun d hd => okS_okD n d (h.2 d hd)⟩
  | _ + 1, .dict _, h => h.elim
end K68
namespace RM
open PySem PySem.Spec PyProof.Rows L2
/-! ### sets of texts that can be walked -/
section
variable {P : Program} {w : World} {A : Around} {E : Value → Shared → Prop} {s : Shared} {a : Addr} {ss : List Str}
def TxE (P : Program) (w : World) (x : Int × Value) : Prop := ∃ z t, x.2 = Value.str z t ∧ x.1 = (PySem.strKind P w).hash z
def txOf (x : Int × Value) : Str := match x.2 with | .str z _ => z | _ => Str.empty
structure Laid (P : Program) (w : World) (ss : List Str) (es : Array (Int × Value)) (t : SetTable) : Prop where
  el : ∀ x ∈ es.toList, TxE P w x
  pm : (es.toList.map txOf).Perm ss
  nd : ss.Nodup
  sz : es.size < scanBound
  fit : t.fits es.size = true
  ris : Ris t.place.toList
  led : w.params.followText "set-order" = true ∨ t.led = true
def TxSet (P : Program) (w : World) (a : Addr) (ss : List Str) (h : Heap) : Prop := ∃ o es ep t, h.get? a = some o ∧ o.ExactSet ∧ o.data = .set es ep t ∧ Laid P w ss es t
theorem Laid.len {es : Array (Int × Value)} {t : SetTable} (L : Laid P w ss es t) : es.size = ss.length := by
  have := L.pm.length_eq
  rw [List.length_map, Array.length_toList] at this
  exact this
end
end RM
set_option maxHeartbeats 4000000
namespace RM
open PySem PySem.Spec PyProof.Rows L2
section
variable {P : Program} {w : World} {A : Around} {E : Value → Shared → Prop} {s : Shared} {a : Addr} {ss : List Str}
theorem TxSet.at {h h' : Heap} (R : TxSet P w a ss h) (k : ∀ o, h.get? a = some o → h'.get? a = some o) : TxSet P w a ss h' := by
  obtain ⟨o, es, ep, t, ho, r⟩ := R
  exact ⟨o, es, ep, t, k o ho, r⟩
end
end RM
set_option maxHeartbeats 4000000
namespace RM
open PySem PySem.Spec PyProof.Rows L2 CS RZ
/-! ### set(a list of texts) -/
end RM
set_option maxHeartbeats 4000000
namespace RM
open PySem PySem.Spec PyProof.Rows L2 CS RZ
/-! ### sets of texts as objects; sorted of one -/
end RM
namespace RM
open PySem PySem.Spec PyProof.Rows L2 CS RZ
/-! ### sorted(set(e)), e a list of texts -/
end RM
namespace RM
open PySem PySem.Spec PyProof.Rows L2 CS RZ
/-! ### what the written part says of a class, as truth values -/
section
variable {K : PySem.W.Frag} {C f p : Addr} {m : Str}
def noB (K : PySem.W.Frag) (C : Addr) (fs : List Str) : Bool := fs.all fun f => PySem.W.findIn K (.ref C) f == some none
theorem noB_at {fs : List Str} {x : Str} (h : noB K C fs = true) (hx : x ∈ fs) : NoAttr K C x := by
  unfold noB at h
  rw [List.all_eq_true] at h
  exact beq_iff_eq.mp (h x hx)
/-! own errors -/
def erB (K : PySem.W.Frag) (C fI : Addr) (fs : List Str) (bm : List Value) : Bool :=
  (PySem.W.findIn K (.ref C) "__setattr__" == some (some (.builtin "object.__setattr__"))) && (PySem.W.hasDictIn K C && (PySem.W.keepIn K (.ref C) && ((PySem.W.findIn K (.ref C) "__init__" == some (some (.ref fI))) && ((PySem.W.typeIn K (.ref fI) == some (.type "function")) && (PySem.W.excOver K C bm && (noB K C fs && ((PySem.W.subIn K (.ref C) (.type "BaseException") == some true) && (PySem.W.typeIn K (.ref C) == some (.type "type")))))))))
theorem erB_ok {fI : Addr} {fs : List Str} {bm : List Value} {B newId initId : String} (F : ExcBaseFacts B newId initId bm) (S : StoreFacts B bm "object.__setattr__" "object") {nm q : Str} {N : Addr} {bs : List Value} {sn : List Str} {sub : List Value} {ab : Bool} {col : Option Bool} {dd : Option Addr} {u0 u1 u2 u3 u5 : Option Value}
    (hC : K.lookup C = some (excClassObj nm q C N bs bm true sn sub ab col dd u0 u1 u2 u3 u5 newId)) (h : erB K C fI fs bm = true) : ErrC K C fI fs := by
  unfold erB at h
  simp only [Bool.and_eq_true, beq_iff_eq] at h
  obtain ⟨h1, h2, h3, h4, h5, h6, h7, h8, h9⟩ := h
  exact ⟨⟨⟨B, newId, initId, bm, F, S, h6, nm, q, N, bs, sn, sub, ab, col, dd, u0, u1, u2, u3, u5, hC⟩, h1, h2, h3, h4, h5⟩, fun f hf => noB_at h7 hf, h8, h9⟩
/-! a def with one default, the empty tuple -/
end
end RM
/-! except (A, B, ..) as n: an error that is used behind the clause -/
namespace CS
open PySem PySem.Spec PyProof.Rows L2
end CS
namespace RM
open PySem PySem.Spec PyProof.Rows L2 CS RZ
/-! ### try: .. except (A, ..) as n: .. -/
end RM
namespace RM
open PySem PySem.Spec PyProof.Rows L2 CS RZ
/-! ### o.m(x = e, ..) -/
structure PDKw (X : Cx) (g : Glob) (xk : WX) (kws : List Keyword) (td : CA) : Prop where
  pk : PK X kws (liftA g xk td)
section
variable {X : Cx} {g : Glob} {xk : WX} {pos kpos : Pos} {CX : CXT} {k j c : Nat} {nm : Option Str} {m : Str} {ps ks : List Str} {sd : SpD}
theorem pdk_nil : PDKw X g xk [] cNil := ⟨⟨fun p pins s σ H Q I h => pk_nil.run p pins s σ H Q I (let ⟨C, ρ, n, O, k, ke, hK, E, t, x, q⟩ := h; q _ _ _ _ _ _ t E (Same.refl _) .nil)⟩⟩
theorem pdk_cons {e : Expr} {kws : List Keyword} {t : CE} {u : CA} (ha : PD X g xk e t) (hr : PDKw X g xk kws u) : PDKw X g xk (⟨nm, e, kpos⟩ :: kws) (cCons t u) := by
  refine ⟨⟨fun p pins s σ H Q I h => (pk_cons ha.pe hr.pk).run p pins s σ H Q I ?_⟩⟩
  obtain ⟨C, ρ, n, O, k, ke, hK, E, t, x, q⟩ := h
  refine ⟨C, ρ, n, O, _, ke, hK, E, t, x, fun d ρ1 n1 v H1 O1 k1 E1 S1 i1 => ?_⟩
  exact ⟨C, ρ1, n1, O1, _, ke, hK, E1, k1, x, fun ds ρ2 n2 vs H2 O2 k2 E2 S2 i2 => q _ _ _ _ _ _ k2 E2 (S1.trans S2) (.cons (i1.same S2) i2)⟩
theorem run_kw {f : Addr} {fd : FuncData} {sp : Sp} {gs : List Value → List Value → List Value} {gV : List V → List V → List V} {n : Nat} {E : L2.St → XK} {pins : List (Addr × Obj)} {σ : L2.St} {H : Hp} {s : Shared} {Q : VK} {us ws : List Value} {vs zs : List V} (F : FnOk X.prog X.w X.K X.mg X.base CX k f fd ps sp) (hr : Room k X.A) (hb : KBn X.K fd ps n ks gs gV) (hx : PassesAt CX X σ (E σ)) (I : Inv X pins σ H s)
    (r : Vals vs us) (rz : Vals zs ws) (l1 : us.length = n) (l2 : ws.length = ks.length) (h : sp (gV vs zs) H Q (E σ)) : wpAny (model X.prog X.w) X.A (call (.ref f) us (ks.zip ws)) (EP X pins σ Q) X.xe s :=
  wpAny_call (codeAny_mono (F.run X.A X.stack s H ⟨us, ks.zip ws⟩ (gs us ws) (gV vs zs) Q (E σ) hr I.env0 (hb.to s us ws I.kIn l1 l2) (hb.rel r rz) h) (cr_out (fun e s' z => hx pins H s e s' I z) fun _ _ z => I.after z))
end
end RM
namespace RM
open PySem PySem.Spec PyProof.Rows L2 CS RZ
/-! ### the errors of a program, beside one another -/
structure ErX (K : PySem.W.Frag) (g : Glob) (ms : List Nat) (fs : List Str) (vb : Nat → Bool) : Prop where
  csx : ∀ c ∈ ms, PySem.W.CsxC K (g.cls c)
  xf : ∀ c ∈ ms, XfC K (g.cls c)
  no : ∀ c ∈ ms, ∀ f ∈ fs, PySem.W.findIn K (.ref (g.cls c)) f = some none
  kit : ∀ c ∈ ms, ∀ d ∈ ms, PySem.W.kitOne K (.ref (g.cls c)) (.ref (g.cls d)) = some (decide (c = d))
  exm : ∀ c ∈ ms, ∀ d ∈ ms, PySem.W.exmOne K (.ref (g.cls c)) (.ref (g.cls d)) = some (decide (c = d))
  kv : ∀ c ∈ ms, PySem.W.kitOne K (.ref (g.cls c)) (.type "ValueError") = some (vb c)
  kl : ∀ c ∈ ms, PySem.W.kitOne K (.ref (g.cls c)) (.type "LookupError") = some (!vb c)
section
variable {K : PySem.W.Frag} {g : Glob} {ms : List Nat} {fs : List Str} {vb : Nat → Bool}
theorem ErX.any (x : ErX K g ms fs vb) {c : Nat} (hc : c ∈ ms) : ∀ {cns : List Nat}, (∀ d ∈ cns, d ∈ ms) → PySem.W.exmAny K (.ref (g.cls c)) (cns.map fun d => .ref (g.cls d)) = some (decide (c ∈ cns))
  | [], _ => by
    show some false = _
    simp
  | d :: cns, h => by
    have h1 := x.exm c hc d (h d (List.mem_cons_self ..))
    have h2 := x.any hc (cns := cns) fun e he => h e (List.mem_cons_of_mem _ he)
    rw [List.map_cons]
    unfold PySem.W.exmAny
    rw [h1, h2]
    by_cases a : c = d
    · simp [a]
    · simp [a]
def cxB (K : PySem.W.Frag) (C : Addr) : Bool := (PySem.W.findIn K (.ref C) "__getattribute__" == some (some (.builtin "BaseException.__getattribute__"))) && ((PySem.W.findIn K (.ref C) "__getattr__" == some none) && ((PySem.W.subIn K (.ref C) (.type "BaseException") == some true) && (PySem.W.hasDictIn K C && ((PySem.W.findIn K (.ref C) "__class__" == some (some (.builtin "object.__class__"))) && ((PySem.W.specialIn K (.builtin "object.__class__") "__get__" == some (some (.builtin "getset_descriptor.__get__"))) && ((PySem.W.takesIn K (.builtin "object.__class__") == some true) && (PySem.W.mroIn K C (.type "object") == some true)))))))
theorem cxB_ok {C : Addr} (h : cxB K C = true) : PySem.W.CsxC K C ∧ XfC K C := by
  unfold cxB at h
  simp only [Bool.and_eq_true, beq_iff_eq] at h
  obtain ⟨h1, h2, h3, h4, h5, h6, h7, h8⟩ := h
  exact ⟨⟨h1, h2, h3, h4, h5, h6, h7, h8⟩, ⟨h1, h2, h3, h4⟩⟩
def erxB (K : PySem.W.Frag) (cl : List (Nat × Addr)) (fs : List Str) (vb : Nat → Bool) : Bool := cl.all fun p => cxB K p.2 && (noB K p.2 fs && ((cl.all fun q => (PySem.W.kitOne K (.ref p.2) (.ref q.2) == some (decide (p.1 = q.1))) && (PySem.W.exmOne K (.ref p.2) (.ref q.2) == some (decide (p.1 = q.1)))) && ((PySem.W.kitOne K (.ref p.2) (.type "ValueError") == some (vb p.1)) && (PySem.W.kitOne K (.ref p.2) (.type "LookupError") == some (!vb p.1)))))
theorem erx_ok {cl : List (Nat × Addr)} (h : erxB K cl fs vb = true) (hg : ∀ p ∈ cl, g.cls p.1 = p.2) : ErX K g (cl.map Prod.fst) fs vb := by
  unfold erxB at h
  simp only [List.all_eq_true, Bool.and_eq_true, beq_iff_eq] at h
  have at_ : ∀ c ∈ cl.map Prod.fst, ∃ p ∈ cl, p.1 = c ∧ g.cls c = p.2 := fun c hc => by
    obtain ⟨p, hp, rfl⟩ := List.mem_map.mp hc
    exact ⟨p, hp, rfl, hg p hp⟩
  refine ⟨fun c hc => ?_, fun c hc => ?_, fun c hc f hf => ?_, fun c hc d hd => ?_, fun c hc d hd => ?_, fun c hc => ?_, fun c hc => ?_⟩ <;> obtain ⟨p, hp, rfl, e⟩ := at_ c hc <;> rw [e]
  · exact (cxB_ok (h p hp).1).1
  · exact (cxB_ok (h p hp).1).2
  · exact noB_at (h p hp).2.1 hf
  · obtain ⟨q, hq, rfl, e2⟩ := at_ d hd
    rw [e2]
    exact ((h p hp).2.2.1 q hq).1
  · obtain ⟨q, hq, rfl, e2⟩ := at_ d hd
    rw [e2]
    exact ((h p hp).2.2.1 q hq).2
  · exact (h p hp).2.2.2.1
  · exact (h p hp).2.2.2.2
end
end RM
namespace RM
open PySem PySem.Spec PyProof.Rows L2 CS RZ
/-! ### isinstance of two built-in types -/
def cIsK (o : Opd) (a b : String) : CE := fun ρ n k ke => cOpd o ρ n (fun get ρ1 n1 => ∃ d t, get ρ1 = some d ∧ kindD d = some t ∧ k (.bool (decide (t = a ∨ t = b))) ρ1 n1) ke
def kit2B (a b : String) : Bool := kinds.all fun t => (kitB t a == some (decide (t = a))) && (kitB t b == some (decide (t = b)))
theorem kit2_at {K : PySem.W.Frag} {a b t : String} (h : kit2B a b = true) (ht : t ∈ kinds) : PySem.W.kitAny K (.type t) [.type a, .type b] = some (decide (t = a ∨ t = b)) := by
  unfold kit2B at h
  simp only [List.all_eq_true, Bool.and_eq_true, beq_iff_eq] at h
  obtain ⟨h1, h2⟩ := h t ht
  by_cases c : t = a
  · exact kitAny_cons (kit_ty h1) (fun z => by simp [c] at z) (fun _ => by simp [c])
  · refine kitAny_cons (kit_ty h1) (fun _ => ?_) (fun z => by simp [c] at z)
    refine kitAny_cons (kit_ty h2) (fun z => ?_) (fun z => ?_)
    · have : ¬ t = b := by simpa using z
      simp [c, this]
      rfl
    · have : t = b := by simpa using z
      simp [this]
section
variable {X : Cx} {g : Glob} {xk : WX} {pos p : Pos}
theorem pd_isK {e : Expr} {o : Opd} {x y : Str} {a b : String} {px py pt : Pos} {kk} (G : Good X g) (hk : kit2B a b = true) (h : PDQ X g xk e o) (gx : Gl X x) (mx : X.mg x = none) (vx : bootBuiltins x = some (.type a)) (gy : Gl X y) (my : X.mg y = none) (vy : bootBuiltins y = some (.type b)) (hg : Gl X "isinstance") (hm : X.mg "isinstance" = none)
    (nx : x ≠ "__name__" := by decide) (dx : (x == ("__debug__" : Str)) = false := by decide) (ny : y ≠ "__name__" := by decide) (dy : (y == ("__debug__" : Str)) = false := by decide)
    (hs : starEach [e, .Tuple [.Name x px, .Name y py] kk pt] X.env = (false, eval e X.env) :: starEach [.Tuple [.Name x px, .Name y py] kk pt] X.env := by rfl) (hs2 : starEach [.Tuple [.Name x px, .Name y py] kk pt] X.env = (false, eval (.Tuple [.Name x px, .Name y py] kk pt) X.env) :: starEach [] X.env := by rfl)
    (hs3 : starEach [.Name x px, .Name y py] X.env = (false, eval (.Name x px) X.env) :: starEach [.Name y py] X.env := by rfl) (hs4 : starEach [.Name y py] X.env = (false, eval (.Name y py) X.env) :: starEach [] X.env := by rfl)
    (hpl : (backTo pos (starEach [.Tuple [.Name x px, .Name y py] kk pt] X.env)).any (·.1) = false := by rfl) : PD X g xk (.Call (.Name "isinstance" p) [e, .Tuple [.Name x px, .Name y py] kk pt] [] pos) (cIsK o a b) := by
  refine ⟨PE.imp (pe_callB call_isiT hg hm (by decide +kernel) (pa_cons h.pe (pa_cons (pe_tup (pa_cons (pe_bltn (v := .ty a) gx mx vx rfl nx dx) (pa_cons (pe_bltn (v := .ty b) gy my vy rfl ny dy) pa_nil hs4) hs3)) pa_nil hs2) hs) (by decide) (by decide) hs hpl) fun σ H Q r => ?_⟩
  obtain ⟨C, ρ, n, O, k, ke, hK, E, t, x, q⟩ := r
  refine ⟨C, ρ, n, O, _, ke, hK, E, t, x, fun get ρ1 n1 v H1 O1 k1 E1 S1 p1 => ?_⟩
  obtain ⟨d, t, h1, h2, k1⟩ := k1
  refine ⟨(by show 2 ≤ sizeLine; decide), fun tp ntp => ?_⟩
  obtain ⟨E2, S2, e2⟩ := E1.new (o := .tup [.ty a, .ty b]) ntp
  have iv := kind_ty (((p1 _ _ _ _ _ E1 (Same.refl _) h1).is hid_le).same (same_new (o := .tup [V.ty a, V.ty b]) ntp)) h2
  exact ⟨v, tp, [.ty a, .ty b], .type t, [.type a, .type b], _, rfl, upd_same, .cons (.ty a) (.cons (.ty b) .nil), (hK.1.trans G.K) ▸ iv, kit2_at hk (kind_mem h2), q _ _ _ _ _ _ k1 E2 (S1.trans S2) (.bl _)⟩
end
/-! ### lists for tuples, at any depth -/
mutual
def listsD : D → D
  | .list ds => .list (listsDs ds)
  | .tuple ds => .list (listsDs ds)
  | d => d
def listsDs : List D → List D
  | [] => []
  | d :: ds => listsD d :: listsDs ds
end
theorem listsDs_map : ∀ ds : List D, listsDs ds = ds.map listsD
  | [] => rfl
  | d :: ds => by
    show listsD d :: listsDs ds = _
    rw [listsDs_map ds]
    rfl
def sdLists (m : Nat) : SpD := fun ds n k _ => ∃ x, ds = [x] ∧ okS m x ∧ k (listsD x) n
def cs_lists (m : Nat) : CS := cRet (cIf (cB (cIsK (.nm 0) "list" "tuple")) (cLc (cSeq (cVar 0)) (stN 1) (cYes) (cCall (sdLists m) (cCons (cVar 1) (cNil))) [1]) (cVar 0))
theorem himp_lists (m : Nat) {e : EndsD} (ds : List D) (n : Nat) (k : D → Nat → Prop) (ke : Xv → Nat → Prop) (h : sdLists (m + 1) ds n k ke) (he : e.rt = k) : cs_lists m (startE ["_law_matter", "_law_bit"] ds) n e := by
  obtain ⟨x, rfl, ok, q⟩ := h
  subst he
  have go : ∀ (xs : List D), seqD x = some xs → xs.length ≤ 1000 → (∀ d ∈ xs, okS m d) → listsD x = .list (xs.map listsD) → cLc (cSeq (cVar 0)) (stN 1) (cYes) (cCall (sdLists m) (cCons (cVar 1) (cNil))) [1] [some (.v x), none] n (fun d _ n' => e.rt d n') e.xc := fun xs h1 h2 h3 h4 => by
    refine ⟨xs, h1, ?_⟩
    refine lcL_run (fun d => some (listsD d)) xs [] (fun d hd => ⟨_, rfl, rfl, fun K1 hK => hK, fun y hy K2 hK => ?_⟩) (by rw [List.length_nil]; unfold lim; omega) ?_
    · cases hy
      exact ⟨d, rfl, h3 d hd, hK⟩
    · rw [List.nil_append]
      have : xs.filterMap (fun d => some (listsD d)) = xs.map listsD := by rw [List.filterMap_eq_map']
      rw [this, ← h4]
      exact q
  cases x with
  | list xs => exact ⟨rfl, _, _, rfl, rfl, _, rfl, go xs rfl ok.1 ok.2 (by show PyData.list (listsDs xs) = _; rw [listsDs_map])⟩
  | tuple xs => exact ⟨rfl, _, _, rfl, rfl, _, rfl, go xs rfl ok.1 ok.2 (by show PyData.list (listsDs xs) = _; rw [listsDs_map])⟩
  | dict xs => exact ok.elim
  | none => exact ⟨rfl, _, _, rfl, rfl, _, rfl, q⟩
  | bool b => exact ⟨rfl, _, _, rfl, rfl, _, rfl, q⟩
  | int b => exact ⟨rfl, _, _, rfl, rfl, _, rfl, q⟩
  | str b => exact ⟨rfl, _, _, rfl, rfl, _, rfl, q⟩
end RM
namespace RM
open PySem PySem.Spec PyProof.Rows L2 CS RZ
/-! ### k05: Counts that are none -/
def inPl (s : Str) (l : List Tri) (a : Str) : Bool := decide (a = s) || l.any fun t => decide (t.1 = a) || decide (t.2.1 = a)
theorem inPl_iff {s a : Str} {l : List Tri} : inPl s l a = true ↔ a = s ∨ ends l a := by
  unfold inPl ends
  simp
def dueT (s : Str) (l : List Tri) : D := match l.find? stillT with
  | some t => .list [.str "still", .str t.1]
  | none => match l.find? belowT with
    | some t => .list [.str "below", .str t.1, .str t.2.1, .int t.2.2]
    | none => .list [.str "made", .str s]
def sdHeard : SpD := fun ds n k _ => ∃ s x rows l, ds = [.str s, x] ∧ seqD x = some rows ∧ RowsAre rows l ∧ GoodL l ∧ l.length ≤ 1000 ∧ k (dueT s l) n
def sdDue : SpD := fun ds n k _ => ∃ s l, ds = [.str s, .list (trisD l)] ∧ GoodS s ∧ GoodL l ∧ l.length ≤ 1000 ∧ k (dueT s l) n
def sdSpots : SpD := fun ds n k _ => ∃ s l, ds = [.str s, .tuple (trisD l)] ∧ GoodS s ∧ GoodL l ∧ l.length ≤ 30 ∧ ∀ ys : List Str, ys.Nodup → (∀ p, p ∈ ys ↔ p = s ∨ ends l p) → sortedS ys = true → k (.list (strD ys)) n
def sdChecked : SpD := fun ds n k _ => ∃ s l a, ds = [cntD s l, .str a] ∧ GoodS s ∧ GoodS a ∧ GoodL l ∧ l.length ≤ 30 ∧ k (if inPl s l a = true then .none else .list [.str a, .bool true]) n
theorem OkN.strsL {ys : List Str} (h : ∀ y ∈ ys, GoodS y) : OkN 1 (.list (strD ys)) := OkN.list fun d hd => by
  obtain ⟨y, hy, rfl⟩ := List.mem_map.mp hd
  exact .str 0 (h y hy)
theorem atI_zero {α : Type} (d : α) (ds : List α) : atI (d :: ds) 0 = some d := by
  unfold atI ixN
  rw [if_pos (by decide), if_pos (by rw [List.length_cons]; omega)]
  rfl
/-! places, gathered -/
end RM
set_option maxHeartbeats 4000000
namespace RM
open PySem PySem.Spec PyProof.Rows L2 CS RZ
/-! ### k05, drawn -/
def a1 : CS := cSet 2 (cCall sdTags (cCons (cVar 0) (cCons (cOp addD (cC (.int 2)) (cCall sdTake (cCons (cVar 0) (cCons (cC (.int 4)) (cNil))))) (cNil))))
def a2 : CS := cOwn 3 (cCF gList' (cCons (cCall sdStrewn (cCons (cVar 0) (cCons (cVar 2) (cCons (cC (.int 6)) (cCons (cC (.int 4)) (cNil)))))) (cNil)))
def a3 : CS := cFor (cRange1 (cCons (cCall sdTake (cCons (cVar 0) (cCons (cC (.int 3)) (cNil)))) (cNil))) (stN 4) (cSq (cSet 7 (cCall sdOf (cCons (cVar 0) (cCons (cLst (cCons (cTup (cCons (cOp atD (cVar 2) (cC (.int 0))) (cCons (cOp atD (cVar 2) (cC (.int 0))) (cCons (cC (.int 1)) (cNil))))) (cCons (cTup (cCons (cOp atD (cVar 2) (cC (.int 1))) (cCons (cOp atD (cVar 2) (cC (.int 0))) (cCons (cOp subD (cNeg (cC (.int 1))) (cCall sdTake (cCons (cVar 0) (cCons (cC (.int 9)) (cNil))))) (cNil))))) (cCons (cTup (cCons (cOp atD (cVar 2) (cC (.int 1))) (cCons (cOp atD (cVar 2) (cC (.int 1))) (cCons (cNeg (cC (.int 2))) (cNil))))) (cNil))))) (cNil))))) (cDrop (cMut 3 (cCons (cCall sdTake (cCons (cVar 0) (cCons (cOp addD (cCBQ gLen (.nm 3)) (cC (.int 1))) (cNil)))) (cCons (cVar 7) (cNil))) uIns)))
def a4 : CS := cSet 5 (cCall sdDue (cCons (cOp atD (cVar 2) (cC (.int 0))) (cCons (cVar 3) (cNil))))
def a5 : CS := cSet 6 (cLst (cCons (cCall sdHeard (cCons (cOp atD (cVar 2) (cC (.int 0))) (cCons (cCB gTuple (cCons (cVar 3) (cNil))) (cNil)))) (cCons (cCall sdHeard (cCons (cOp atD (cVar 2) (cC (.int 0))) (cCons (cCall (sdLists 3) (cCons (cVar 3) (cNil))) (cNil)))) (cNil))))
def a6 : CS := cIfS (cNotT (cB (cCall sdSame (cCons (cVar 6) (cCons (cLst (cCons (cVar 5) (cCons (cVar 5) (cNil)))) (cNil)))))) (cRet (cC (.bool false))) (cNext)
def a7 : CS := cIfS (cB (cOp eqD (cOp atD (cVar 5) (cC (.int 0))) (cC (.str "made")))) (cSq (cSet 8 (cMake cCnt sdInit (cCons (cOp atD (cVar 2) (cC (.int 0))) (cCons (cVar 3) (cNil))))) (cSq (cSet 9 (cCall sdSpots (cCons (cOp atD (cVar 2) (cC (.int 0))) (cCons (cCall sdSummed (cCons (cVar 3) (cNil))) (cNil))))) (cSq (cOwn 6 (cLc (cSeq (cOp addD (cVar 2) (cLst (cCons (cC (.str "inland")) (cNil))))) (stN 10) (cYes) (cCall sdChecked (cCons (cVar 8) (cCons (cVar 10) (cNil)))) [10])) (cSq (cOwn 5 (cLc (cSeq (cOp addD (cVar 2) (cLst (cCons (cC (.str "inland")) (cNil))))) (stN 10) (cYes) (cIf (cB (cOp inD (cVar 10) (cVar 9))) (cC .none) (cLst (cCons (cVar 10) (cCons (cC (.bool true)) (cNil))))) [10])) (cIfS (cNotT (cB (cCall sdSame (cCons (cVar 6) (cCons (cVar 5) (cNil)))))) (cRet (cC (.bool false))) (cNext)))))) (cNext)
def aBody : CS := cSq a1 (cSq a2 (cSq a3 (cSq a4 (cSq a5 (cSq a6 (a7))))))
def at1 : CS := cFor (cRange1 (cCons (cC (.int 8)) (cNil))) (stN 1) aBody
abbrev gr (t1 t2 t3 t4 t5 t6 t7 t8 t9 t10 : Option Sl) : En := [some (.v boxD), t1, t2, t3, t4, t5, t6, t7, t8, t9, t10]
theorem range_len (r : Int) : (rangeD 0 r.toNat).length = r.toNat := by
  unfold rangeD
  rw [List.length_map, List.length_range]
end RM
set_option maxHeartbeats 4000000
namespace RM
open PySem PySem.Spec PyProof.Rows L2 CS RZ
/-! ### k05, by hand -/
end RM
namespace RM
open PySem PySem.Spec PyProof.Rows L2 CS RZ
section
variable {P : Program} {w : World} {K : PySem.W.Frag} {mg : Str → Option Value} {base : Heap} {g : Glob}
/-- at no depth nothing is asked -/
theorem lists_none {f : Addr} {fd : FuncData} : FnOk P w K mg base CX0 0 f fd ["_law_matter"] (spD g (sdLists 0)) := by
  have no : ∀ vs H Q E, ¬ spD g (sdLists 0) vs H Q E := fun vs H Q E h => by
    obtain ⟨C, ds, n, k, ke, _, _, _, _, ⟨x, _, ok, _⟩, _⟩ := h
    exact ok
  exact ⟨fun vs H Q E h => absurd h (no vs H Q E), fun A outer s H args us vs Q E _ _ _ _ h => absurd h (no vs H Q E)⟩
end
end RM
namespace RM
open PySem PySem.Spec PyProof.Rows L2 CS RZ
/-! ### a cut of a tuple as a key -/
section
variable {X : Cx} {g : Glob} {xk : WX} {pos : Pos}
/-! ### dict(l), l a list of pairs, their keys tuples -/
/-! the comprehension's turns -/
def PrD (T : Tab) (H : Hp) (v : V) (kv : D × D) : Prop := ∃ (p b : Addr) (ks : List L2.Key) (y : V), v = .ref p ∧ H p = some (.tup [.ref b, y]) ∧ H b = some (.tup (ks.map kV)) ∧ kv.1 = .tuple (ks.map kD) ∧ Is T H y kv.2
theorem PrD.same {T : Tab} {H H' : Hp} {v : V} {kv : D × D} (h : PrD T H v kv) (s : Same H H') : PrD T H' v kv :=
  let ⟨p, b, ks, y, e1, e2, e3, e4, e5⟩ := h
  ⟨p, b, ks, y, e1, s _ _ e2, s _ _ e3, e4, e5.same s⟩
end
end RM
namespace PySem.W
open PySem PySem.Spec PyProof.Rows
open Builtin
end PySem.W
namespace RM
open PySem PySem.Spec PyProof.Rows L2 CS RZ
/-! ### != by one's own ==; == with something else -/
end RM
namespace RM
open PySem PySem.Spec PyProof.Rows L2 CS RZ
/-! ### a list a number of times -/
def repD : D → D → Option D
  | .list ds, .int k => if 0 ≤ k ∧ k ≤ 1000 ∧ ds.length * k.toNat ≤ lim then some (.list (List.replicate k.toNat ds).flatten) else none
  | _, _ => none
theorem isL_rep {T : Tab} {H : Hp} {vs : List V} {ds : List D} (h : IsL T H vs ds) : ∀ k : Nat, IsL T H (List.replicate k vs).flatten (List.replicate k ds).flatten
  | 0 => .nil
  | k + 1 => by
    rw [List.replicate_succ, List.replicate_succ, List.flatten_cons, List.flatten_cons]
    exact h.append (isL_rep h k)
theorem od_rep {X : Cx} : OpD X (binaryOp .Mult) repD := by
  refine ⟨_, op_rep, fun T Hh H x y dx dy z Q hK s ix iy hg q => ?_⟩
  unfold repD at hg
  split at hg
  · obtain ⟨⟨c1, c2, c3⟩, rfl⟩ := ifs hg
    obtain ⟨a, xs, rfl, ha, ra⟩ := ix.list'
    rw [iy.int']
    exact ⟨a, _, xs, rfl, rfl, s _ _ ha, by omega, by omega, by rw [ra.length]; exact lim_le c3, newL q (isL_rep ra _)⟩
  · cases hg
/-! a class known apart from the built-in kinds -/
end RM
namespace RM
open PySem PySem.Spec PyProof.Rows L2 CS RZ
/-! ### k06: Counts added and taken away -/
structure Cn (L : List Tri) : Prop where
  g : GoodL L
  fine : Fine L
  pos : ∀ t ∈ L, 0 < t.2.2
  len : L.length ≤ 30
  nd : (L.map pr).Nodup
  pw : (L.map pr).Pairwise fun a b => leP a b = true
theorem cn_canon {l : List Tri} (hF : Fine l) (hg : GoodL l) (hl : l.length ≤ 30) : Cn (canon l) := ⟨good_canon hg, fine_canon hF, fun t ht => (canon_mem ht).2.1, by have := canon_len l; omega, canon_nodup l, List.pairwise_map.mpr (canon_pw l)⟩
theorem Cn.id {L : List Tri} (c : Cn L) : canon L = L := canon_id c.nd c.pw c.pos
theorem numAt_mem {l : List Tri} (hn : (l.map pr).Nodup) {t : Tri} (ht : t ∈ l) : numAt l (pr t) = t.2.2 := by
  induction l with
  | nil => cases ht
  | cons u l ih =>
    rw [numAt_cons]
    rw [List.map_cons, List.nodup_cons] at hn
    rcases List.mem_cons.mp ht with rfl | ht
    · rw [if_pos rfl]
    · have hne : ¬ pr u = pr t := fun w => hn.1 (by rw [w]; exact List.mem_map_of_mem ht)
      rw [if_neg hne]
      exact ih hn.2 ht
end RM
namespace RM
open PySem PySem.Spec PyProof.Rows L2 CS RZ
/-! ### k06: taken away, by the law's own table -/
end RM
set_option maxHeartbeats 4000000
namespace RM
open PySem PySem.Spec PyProof.Rows L2 CS RZ
/-! ### k06: a case -/
structure C6 (f g : Str) (l m : List Tri) : Prop where
  gf : GoodS f
  gg : GoodS g
  fl : Fine l
  fm : Fine m
  gl : GoodL l
  gm : GoodL m
  ll : l.length ≤ 12
  lm : m.length ≤ 12
section
variable {e : EndsD} {n : Nat} {f g : Str} {l m : List Tri} {t4 t5 t6 t7 t8 t9 t10 t11 t12 : Option Sl}
theorem C6.cl (c : C6 f g l m) : Cn (canon l) := cn_canon c.fl c.gl (by have := c.ll; omega)
end
end RM
set_option maxHeartbeats 4000000
namespace RM
open PySem PySem.Spec PyProof.Rows L2 CS RZ
/-! ### k06 by hand -/
def lD6 : List Tri := [("b", "a", 1)]
abbrev hA : D := .list [.str "b", .str "a", .int 2, .bool true, .bool false]
abbrev hC : D := .list [.str "a", .tuple (trisD lD6)]
end RM
set_option maxHeartbeats 4000000
namespace RM
open PySem PySem.Spec PyProof.Rows L2 CS RZ
/-! ### k06, drawn -/
structure Pool (ss : List Str) : Prop where
  nd : ss.Nodup
  two : 2 ≤ ss.length
  six : ss.length ≤ 6
  tag : ∀ s ∈ ss, s ∈ tagPool
structure Rows6 (ss : List Str) (l : List Tri) : Prop where
  fine : Fine l
  ins : ∀ t ∈ l, t.1 ∈ ss ∧ t.2.1 ∈ ss
theorem Rows6.good {ss : List Str} {l : List Tri} (p : Pool ss) (r : Rows6 ss l) : GoodL l := fun t ht => ⟨tag_good _ (p.tag _ (r.ins t ht).1), tag_good _ (p.tag _ (r.ins t ht).2)⟩
end RM
namespace CS
open PySem PySem.Spec PyProof.Rows L2
end CS
namespace RM
open PySem PySem.Spec PyProof.Rows L2 CS RZ
/-! ### pairs of two rows -/
end RM
namespace RM
open PySem PySem.Spec PyProof.Rows L2 CS RZ
/-! ### k07: rows of steps -/
def pairsOf : List Str → List (Str × Str)
  | a :: b :: r => (a, b) :: pairsOf (b :: r)
  | _ => []
theorem pairs_cons (a b : Str) (r : List Str) : pairsOf (a :: b :: r) = (a, b) :: pairsOf (b :: r) := rfl
def stepT (ss : List Str) : List Tri := (pairsOf ss).map fun p => (p.1, p.2, 1)
theorem pairs_len : ∀ ss : List Str, (pairsOf ss).length = ss.length - 1
  | [] => rfl
  | [a] => rfl
  | a :: b :: r => by
    have ih := pairs_len (b :: r)
    rw [pairs_cons, List.length_cons, ih]
    simp
theorem pairs_mem : ∀ {ss : List Str} {p : Str × Str}, p ∈ pairsOf ss → p.1 ∈ ss ∧ p.2 ∈ ss
  | [], _, h => by cases h
  | [a], _, h => by cases h
  | a :: b :: r, p, h => by
    rw [pairs_cons] at h
    rcases List.mem_cons.mp h with rfl | h
    · exact ⟨by simp, by simp⟩
    · have := pairs_mem h
      exact ⟨List.mem_cons_of_mem _ this.1, List.mem_cons_of_mem _ this.2⟩
/-- a journey -/
structure Jn (ss : List Str) : Prop where
  good : ∀ s ∈ ss, GoodS s
  ch : ∀ p ∈ pairsOf ss, p.1 ≠ p.2
  len : ss.length ≤ 60
theorem Jn.fine {ss : List Str} (j : Jn ss) : Fine (stepT ss) := fun t ht => by
  obtain ⟨p, hp, rfl⟩ := List.mem_map.mp ht
  exact ⟨j.ch p hp, show (0 : Int) ≤ 1 by decide⟩
theorem step_len (ss : List Str) : (stepT ss).length = ss.length - 1 := by
  unfold stepT
  rw [List.length_map, pairs_len]
theorem atI_last {ss : List Str} {a : Str} : atI (strD (ss ++ [a])) (-1) = some (.str a) := by
  unfold atI ixN strD
  rw [if_neg (by decide), List.length_map, List.length_append, List.length_singleton, if_pos (by omega)]
  rw [show (-1 + ((ss.length + 1 : Nat) : Int)).toNat = (List.map PyData.str ss).length by rw [List.length_map]; omega, List.map_append]
  simp
end RM
namespace RM
open PySem PySem.Spec PyProof.Rows L2 CS RZ
/-! ### k07: under other names -/
/-! steps renamed -/
end RM
namespace RM
open PySem PySem.Spec PyProof.Rows L2 CS RZ
/-! ### k07: steps tallied -/
end RM
set_option maxHeartbeats 4000000
namespace RM
open PySem PySem.Spec PyProof.Rows L2 CS RZ
/-! ### k07: a journey drawn -/
theorem pairs_snoc : ∀ (r : List Str) (z y : Str), pairsOf (r ++ [z] ++ [y]) = pairsOf (r ++ [z]) ++ [(z, y)]
  | [], z, y => rfl
  | [a], z, y => rfl
  | a :: b :: r, z, y => by
    have ih := pairs_snoc (b :: r) z y
    show (a, b) :: pairsOf (b :: r ++ [z] ++ [y]) = (a, b) :: (pairsOf (b :: r ++ [z])) ++ [(z, y)]
    rw [ih]
    rfl
theorem pairs_snoc2 (r : List Str) (y z : Str) : (y, z) ∈ pairsOf (r ++ [y] ++ [z]) := by
  rw [pairs_snoc]
  simp
structure Wk (ss row : List Str) (a z : Str) : Prop where
  hd : ∃ w, row = a :: w
  tl : ∃ r, row = r ++ [z]
  ins : ∀ s ∈ row, s ∈ ss
  ch : ∀ p ∈ pairsOf row, p.1 ≠ p.2
theorem Wk.snoc {ss row : List Str} {a z y : Str} (w : Wk ss row a z) (hy : y ∈ ss) (hne : y ≠ z) : Wk ss (row ++ [y]) a y := by
  obtain ⟨⟨w', e1⟩, ⟨r, e2⟩, h3, h4⟩ := w
  refine ⟨⟨w' ++ [y], by rw [e1]; rfl⟩, ⟨row, rfl⟩, fun s hs => (List.mem_append.mp hs).elim (h3 s) fun h => by rw [List.mem_singleton.mp h]; exact hy, fun p hp => ?_⟩
  rw [e2, pairs_snoc] at hp
  rcases List.mem_append.mp hp with hp | hp
  · exact h4 p (by rw [e2]; exact hp)
  · rw [List.mem_singleton.mp hp]
    exact hne.symm
def walkt1 : CS := cOwn 3 (cLst (cCons (cCall sdOf (cCons (cVar 0) (cCons (cVar 1) (cNil)))) (cNil)))
def walk1 : CS := cOwn 5 (cLc (cSeq (cVar 1)) (stN 7) (cB (cOp neD (cVar 7) (cIxQ (.nm 3) (cNeg (cC (.int 1)))))) (cVar 7) [7])
def walk2 : CS := cSet 6 (cAndV (cOp gtD (cCBQ gLen (.nm 3)) (cC (.int 1))) (cOp eqD (cCall sdTake (cCons (cVar 0) (cCons (cC (.int 3)) (cNil)))) (cC (.int 0))))
def walk3 : CS := cDrop (cApp 3 (cIf (cB (cVar 6)) (cIxQ (.nm 3) (cNeg (cC (.int 2)))) (cCall sdOf (cCons (cVar 0) (cCons (cVar 5) (cNil))))))
def walkBody : CS := cSq walk1 (cSq walk2 (walk3))
def walkt2 : CS := cFor (cRange1 (cCons (cCall sdTake (cCons (cVar 0) (cCons (cOp addD (cVar 2) (cC (.int 1))) (cNil)))) (cNil))) (stN 4) walkBody
def walkt3 : CS := cIfS (cAndT (cB (cOp neD (cIxQ (.nm 3) (cNeg (cC (.int 1)))) (cIxQ (.nm 3) (cC (.int 0))))) (cAndT (cB (cOp leD (cCBQ gLen (.nm 3)) (cVar 2))) (cB (cOp eqD (cCall sdTake (cCons (cVar 0) (cCons (cC (.int 3)) (cNil)))) (cC (.int 0)))))) (cDrop (cApp 3 (cIxQ (.nm 3) (cC (.int 0))))) (cNext)
def walkt4 : CS := cRet (cCB gTuple (cCons (cVar 3) (cNil)))
def cs_walk : CS := cSq walkt1 (cSq walkt2 (cSq walkt3 (walkt4)))
abbrev n_walk : List Str := ["_law_box_here", "_law_tags_here", "_law_most_so", "_law_row_so", "_law_turn", "_law_near", "_law_back_so", "_law_tag"]
abbrev fw (ss row : List Str) (most : Int) (t4 t5 t6 : Option Sl) : En := [some (.v boxD), some (.v (.list (strD ss))), some (.v (.int most)), some (.own (.list (strD row))), t4, t5, t6, none]
def nearF (z : Str) : D → Option D
  | .str s => if s ≠ z then some (.str s) else none
  | _ => none
theorem nearF_str (z s : Str) : nearF z (.str s) = if s ≠ z then some (.str s) else none := rfl
theorem nearF_all (z : Str) : ∀ ss : List Str, (strD ss).filterMap (nearF z) = strD (ss.filter fun s => s ≠ z)
  | [] => rfl
  | s :: ss => by
    have ih := nearF_all z ss
    unfold strD at ih ⊢
    rw [List.map_cons, List.filterMap_cons, nearF_str, ih, List.filter_cons]
    by_cases c : s = z
    · rw [if_neg (by simpa using c), if_neg (by simpa using c)]
    · rw [if_pos c, if_pos (by simpa using c)]
      rfl
theorem near_some {ss : List Str} (hn : ss.Nodup) (h2 : 2 ≤ ss.length) (z : Str) : 0 < (ss.filter fun s => s ≠ z).length := by
  match ss, hn, h2 with
  | a :: b :: r, hn, _ =>
    rw [List.nodup_cons] at hn
    have hab : a ≠ b := fun e => hn.1 (by rw [e]; simp)
    refine List.length_pos_of_mem (a := if a = z then b else a) (List.mem_filter.mpr ?_)
    by_cases c : a = z
    · rw [if_pos c]
      exact ⟨by simp, by rw [← c]; simpa using hab.symm⟩
    · rw [if_neg c]
      exact ⟨by simp, by simpa using c⟩
  | [a], _, h => simp at h
  | [], _, h => simp at h
theorem last2 {r : List Str} {y z : Str} : atD (.list (strD (r ++ [y] ++ [z]))) (.int (-2)) = some (.str y) := by
  show atI (strD (r ++ [y] ++ [z])) (-2) = _
  unfold atI ixN strD
  rw [if_neg (by decide), List.length_map, List.length_append, List.length_append, List.length_singleton, List.length_singleton, if_pos (by omega)]
  rw [show (-2 + ((r.length + 1 + 1 : Nat) : Int)).toNat = (List.map PyData.str r).length by rw [List.length_map]; omega, List.map_append, List.map_append, List.append_assoc]
  simp
section
variable {e : EndsD} {n : Nat} {ss row : List Str} {most : Int} {t4 t5 t6 : Option Sl}
theorem walkBody_ok {a z : Str} (hn : ss.Nodup) (h2 : 2 ≤ ss.length) (h8 : ss.length ≤ 8) (hg : ∀ s ∈ ss, GoodS s) (hN : n ≤ 800000) (hl : row.length ≤ 900) (w : Wk ss row a z)
    (q : ∀ (y : Str) (t5 t6 : Option Sl) (n' : Nat), Wk ss (row ++ [y]) a y → n' ≤ n + 2 → e.nx (fw ss (row ++ [y]) most t4 t5 t6) n') : walkBody (fw ss row most t4 t5 t6) n e := by
  have gz : GoodS z := by
    obtain ⟨r, er⟩ := w.tl
    exact hg z (w.ins z (by rw [er]; simp))
  have zl : atD (.list (strD row)) (.int (-1)) = some (.str z) := by
    obtain ⟨r, er⟩ := w.tl
    rw [er]
    exact atI_last
  have ll : (strD row).length = row.length := strD_len row
  refine ⟨strD ss, rfl, ?_⟩
  show cLcL _ _ _ _ _ (fw ss row most t4 t5 t6) n [] _
  refine lcL_run (nearF z) _ [] (fun d hd => ?_) (by rw [strD_len, List.length_nil]; unfold lim; omega) ?_
  · obtain ⟨s, hs, rfl⟩ := List.mem_map.mp hd
    refine ⟨_, rfl, rfl, fun K1 hK => ⟨rfl, 1, rfl, _, _, rfl, zl, _, neD_str (hg s hs) gz, _, rfl, ?_⟩, fun y hy K2 hK => ?_⟩
    · rw [nearF_str] at hK
      by_cases c : s = z
      · rw [if_neg (by simpa using c)] at hK
        rw [decide_eq_true c]
        exact hK
      · rw [if_pos c] at hK
        rw [decide_eq_false c]
        exact hK
    · rw [nearF_str] at hy
      have ey := (ifs hy).2
      subst ey
      exact hK
  rw [List.nil_append, nearF_all]
  refine ⟨by show 5 < 8; decide, ?_⟩
  have away : ∀ (n1 : Nat) (t6 : Option Sl), t6 = some (.v (.bool false)) → n1 ≤ n + 1 → walk3 [some (.v boxD), some (.v (.list (strD ss))), some (.v (.int most)), some (.own (.list (strD row))), t4, some (.own (.list (strD (ss.filter fun s => s ≠ z)))), t6, none] n1 e := fun n1 t6 e6 hn1 => by
    subst e6
    have l0 := near_some hn h2 z
    have l1 := List.length_filter_le (fun s => decide (s ≠ z)) ss
    refine ⟨⟨_, rfl⟩, false, rfl, ?_⟩
    refine ⟨.list (strD (ss.filter fun s => s ≠ z)), strD (ss.filter fun s => s ≠ z), rfl, rfl, by omega, by rw [strD_len]; exact l0, by rw [strD_len]; omega, fun d hd => ?_⟩
    obtain ⟨y, hy, rfl⟩ := List.mem_map.mp hd
    have hyf := List.mem_filter.mp hy
    refine ⟨strD row, rfl, by rw [ll]; unfold lim; omega, ?_⟩
    have e1 : strD row ++ [PyData.str y] = strD (row ++ [y]) := by
      unfold strD
      rw [List.map_append]
      rfl
    rw [e1]
    exact q y _ _ _ (w.snoc hyf.1 (by simpa using hyf.2)) (by omega)
  refine ⟨rfl, .list (strD row), .int (strD row).length, rfl, ⟨_, _, rfl, rfl, rfl⟩, rfl, .bool (decide (1 < ((strD row).length : Int))), rfl, _, rfl, ?_⟩
  by_cases c : 1 < ((strD row).length : Int)
  · rw [decide_eq_true c, if_pos rfl]
    refine ⟨3, rfl, by omega, by decide, by decide, fun r r0 r1 => ⟨.bool (r == 0), rfl, ?_⟩⟩
    cases cr : r == 0 with
    | false => exact away (n + 1) _ rfl (Nat.le_refl _)
    | true =>
      obtain ⟨r', er⟩ := w.tl
      obtain ⟨r2, y, e2⟩ : ∃ r2 y, r' = r2 ++ [y] := by
        rcases List.eq_nil_or_concat r' with e | ⟨r2, y, e⟩
        · rw [ll, er, e] at c
          simp at c
        · exact ⟨r2, y, by rw [e]; simp⟩
      have e3 : row = r2 ++ [y] ++ [z] := by rw [er, e2]
      have hyz : y ≠ z := w.ch (y, z) (by rw [e3]; exact pairs_snoc2 r2 y z)
      have hys : y ∈ ss := w.ins y (by rw [e3]; simp)
      refine ⟨⟨_, rfl⟩, true, rfl, ?_⟩
      refine ⟨rfl, 2, rfl, _, .str y, rfl, by rw [e3]; exact last2, strD row, rfl, by rw [ll]; unfold lim; omega, ?_⟩
      have e1 : strD row ++ [PyData.str y] = strD (row ++ [y]) := by
        unfold strD
        rw [List.map_append]
        rfl
      rw [e1]
      exact q y _ _ _ (w.snoc hys hyz) (by omega)
  · rw [decide_eq_false c, if_neg (by simp)]
    exact away n _ rfl (by omega)
end
theorem walk_loop {e : EndsD} {ss : List Str} {most : Int} {a : Str} (hn : ss.Nodup) (h2 : 2 ≤ ss.length) (h8 : ss.length ≤ 8) (hg : ∀ s ∈ ss, GoodS s) : ∀ (turns : List D) (row : List Str) (z : Str) (t4 t5 t6 : Option Sl) (n : Nat), n + 2 * turns.length ≤ 800000 → row.length + turns.length ≤ 100 → Wk ss row a z →
    (∀ (row' : List Str) (z : Str) (t4 t5 t6 : Option Sl) (n' : Nat), Wk ss row' a z → row'.length = row.length + turns.length → n' ≤ n + 2 * turns.length → e.nx (fw ss row' most t4 t5 t6) n') →
    cForL (stN 4) walkBody turns (fw ss row most t4 t5 t6) n e
  | [], row, z, t4, t5, t6, n, _, _, w, q => q row z t4 t5 t6 n w rfl (by omega)
  | d :: turns, row, z, t4, t5, t6, n, h, hl, w, q => by
    rw [List.length_cons] at h hl q
    refine ⟨_, rfl, ?_⟩
    refine walkBody_ok hn h2 h8 hg (by omega) (by omega) w fun y t5 t6 n' w' hn' => ?_
    refine walk_loop hn h2 h8 hg turns (row ++ [y]) y _ _ _ n' (by omega) (by rw [List.length_append, List.length_singleton]; omega) w' fun row' z t4 t5 t6 n2 w2 l2 h3 => q row' z t4 t5 t6 n2 w2 (by rw [l2, List.length_append, List.length_singleton]; omega) (by omega)
end RM
namespace RM
open PySem PySem.Spec PyProof.Rows L2 CS RZ
/-! ### sums over what is counted -/
end RM
set_option maxHeartbeats 4000000
namespace RM
open PySem PySem.Spec PyProof.Rows L2 CS RZ
/-! ### k07, drawn -/
abbrev f7 (t1 t2 t3 t4 t5 t6 t7 t8 t9 t10 t11 t12 t13 t14 : Option Sl) : En := [some (.v boxD), t1, t2, t3, t4, t5, t6, t7, t8, t9, t10, t11, t12, t13, t14]
end RM
set_option maxHeartbeats 4000000
namespace RM
open PySem PySem.Spec PyProof.Rows L2 CS RZ
end RM
set_option maxHeartbeats 4000000
namespace RM
open PySem PySem.Spec PyProof.Rows L2 CS RZ
/-! ### k07 by hand -/
end RM
namespace RM
open PySem PySem.Spec PyProof.Rows L2 CS RZ
/-! ### texts put together -/
end RM
namespace RM
open PySem PySem.Spec PyProof.Rows L2 CS RZ
/-! ### C(k2 = .., k1 = ..): an own class made by names, the last parameter first; C.m(k = ..), m a staticmethod -/
end RM
namespace RM
open PySem PySem.Spec PyProof.Rows L2 CS RZ
/-! ### what has no list in it stays, whatever lists change -/
section
variable {X : Cx} {g : Glob} {xk : WX} {C : Ctx} {ρ : En} {n : Nat} {σ : L2.St} {H H' : Hp} {O : Ow}
/-! ### a call whose lists are all new -/
def noOwn (ρ : En) : Prop := ∀ (i : Nat) (d : D), ρ[i]? ≠ some (some (Sl.own d))
theorem noOwn.set {i : Nat} {x : Option Sl} (h : noOwn ρ) (hx : ∀ d, x ≠ some (Sl.own d)) : noOwn (ρ.set i x) := fun j d e => by
  by_cases c : j = i
  · subst c
    have hl := lt_of_get e
    rw [List.length_set] at hl
    rw [List.getElem?_set_self hl] at e
    cases e
    exact hx d rfl
  · rw [List.getElem?_set_ne (Ne.symm c)] at e
    exact h j d e
theorem Ev.none (E : Ev C ρ n σ H O) (no : noOwn ρ) (i : Nat) : O i = none := by
  cases h : O i with
  | none => rfl
  | some p =>
    obtain ⟨⟨d, e⟩, _⟩ := E.only i p h
    exact (no i d e).elim
end
end RM
namespace RM
open PySem PySem.Spec PyProof.Rows L2 CS RZ
/-! ### new lists in a new list: told to a call, then changed -/
section
variable {X : Cx} {g : Glob} {xk : WX} {C : Ctx} {ρ : En} {n : Nat} {σ : L2.St} {H : Hp} {O : Ow} {pos : Pos}
def Ctx.one (T : Tab) (H : Hp) (a : Addr) : Ctx where
  T := { T with bx := none }
  Z := fun _ => False
  H0 := fun b => if b = a then none else H b
end
end RM
namespace RM
open PySem PySem.Spec PyProof.Rows L2 CS RZ
end RM
namespace RM
open PySem PySem.Spec PyProof.Rows L2 CS RZ
/-! ### k04: Counts as a text -/
def numS (i : Int) : Str := toString i
theorem numS_len {i : Int} (h : i.natAbs.log2 < 1920) : (numS i).length ≤ 1921 := int_text_len_1921 h
/-! ### sums of what leads out of a place and into it -/
end RM
namespace RM
open PySem PySem.Spec PyProof.Rows L2 CS RZ
/-! ### k04: what is told -/
/-! texts already in order -/
end RM
namespace RM
open PySem PySem.Spec PyProof.Rows L2 CS RZ
/-! ### k04: what is due -/
end RM
namespace RM
open PySem PySem.Spec PyProof.Rows L2 CS RZ
/-! ### k04: a drawn case -/
abbrev f4 (s : Str) (l L : List Tri) (tags : List Str) (due t6 t9 t10 : Option Sl) : En := [some (.v (.str s)), some (.v (.tuple (trisD l))), some (.v (.list (strD tags))), none, none, due, t6, some (.v (cntD s L)), some (.v (.tuple (trisD L))), t9, t10]
end RM
namespace RM
open PySem PySem.Spec PyProof.Rows L2 CS RZ
end RM
namespace RM
open PySem PySem.Spec PyProof.Rows L2 CS RZ
/-! ### k04: a drawn turn -/
section
variable {e : EndsD} {n : Nat} {t1 t2 t3 t4 : Option Sl}
theorem pairs_both : ∀ (ss : List Str) (p : Str × Str), p ∈ pairsOf ss → p.1 ∈ ss ∧ p.2 ∈ ss
  | [], p, h => by cases h
  | [a], p, h => by cases h
  | a :: b :: r, p, h => by
    rcases List.mem_cons.mp h with rfl | h
    · exact ⟨List.mem_cons_self .., List.mem_cons_of_mem _ (List.mem_cons_self ..)⟩
    · have := pairs_both (b :: r) p h
      exact ⟨List.mem_cons_of_mem _ this.1, List.mem_cons_of_mem _ this.2⟩
end
end RM
namespace RM
open PySem PySem.Spec PyProof.Rows L2 CS RZ
/-! ### k04 by hand -/
end RM
namespace RM
open PySem PySem.Spec PyProof.Rows L2 CS RZ
/-! ### f(k = e): a def called by a name alone -/
end RM
namespace RM
open PySem PySem.Spec PyProof.Rows L2 CS RZ
/-! ### raise C(): an own error that keeps nothing -/
end RM
namespace RM
open PySem PySem.Spec PyProof.Rows L2 CS RZ
/-! ### what hangs together: labels against lots -/
def relab (f : Str → Str) (p : Str × Str) : Str → Str := fun y => if f y = f p.1 then f p.2 else f y
def clsOf (ys : List Str) (f : Str → Str) (h : Str) : List Str := ys.filter fun y => f y = h
structure Lab (ys : List Str) (f : Str → Str) : Prop where
  mem : ∀ y ∈ ys, f y ∈ ys
  idem : ∀ y ∈ ys, f (f y) = f y
section
variable {ys : List Str} {f : Str → Str} {a b : Str} {L : List (List Str)}
theorem Lab.step (h : Lab ys f) (ha : a ∈ ys) (hb : b ∈ ys) : Lab ys (relab f (a, b)) where
  mem := fun y hy => by
    unfold relab
    split
    · exact h.mem b hb
    · exact h.mem y hy
  idem := fun y hy => by
    unfold relab
    show (if f (if f y = f a then f b else f y) = f a then f b else f (if f y = f a then f b else f y)) = if f y = f a then f b else f y
    by_cases c : f y = f a
    · rw [if_pos c, h.idem b hb]
      split <;> rfl
    · rw [if_neg c, h.idem y hy, if_neg c]
theorem Lab.all : ∀ (ts : List (Str × Str)) (f : Str → Str), Lab ys f → (∀ p ∈ ts, p.1 ∈ ys ∧ p.2 ∈ ys) → Lab ys (ts.foldl relab f)
  | [], f, h, _ => h
  | p :: ts, f, h, hp => Lab.all ts _ (h.step (hp p (List.mem_cons_self ..)).1 (hp p (List.mem_cons_self ..)).2) fun q hq => hp q (List.mem_cons_of_mem _ hq)
theorem mem_cls {h y : Str} : y ∈ clsOf ys f h ↔ y ∈ ys ∧ f y = h := by
  unfold clsOf
  rw [List.mem_filter, decide_eq_true_iff]
end
end RM
namespace RM
open PySem PySem.Spec PyProof.Rows L2 CS RZ
/-! ### rows of texts in order -/
def rowT (z : List Str) : D := .tuple (strD z)
/-! ### the least place apart from a place -/
end RM
namespace RM
open PySem PySem.Spec PyProof.Rows L2 CS RZ
/-! ### the places of a Counts, in order -/
def leSb (a b : Str) : Bool := leD' (.str a) (.str b)
def spotsAcc (L : List Tri) (ns : List Str) : List Str := L.foldl (fun ns t => putS (putS ns t.1) t.2.1) ns
def placesL (s : Str) (L : List Tri) : List Str := (spotsAcc L [s]).mergeSort leSb
theorem acc_ok : ∀ (L : List Tri) (ns : List Str), (ns.Nodup → (spotsAcc L ns).Nodup) ∧ (∀ p, p ∈ spotsAcc L ns ↔ p ∈ ns ∨ ends L p) ∧ (spotsAcc L ns).length ≤ ns.length + 2 * L.length
  | [], ns => ⟨id, fun p => ⟨.inl, fun h => h.elim id fun ⟨t, z, _⟩ => (List.not_mem_nil z).elim⟩, by simp [spotsAcc]⟩
  | t :: L, ns => by
    obtain ⟨h1, h2, h3⟩ := acc_ok L (putS (putS ns t.1) t.2.1)
    have a1 := len_putS ns t.1
    have a2 := len_putS (putS ns t.1) t.2.1
    refine ⟨fun h => h1 (nodup_putS (nodup_putS h)), fun p => ?_, by rw [List.length_cons]; exact Nat.le_trans h3 (by omega)⟩
    show p ∈ spotsAcc L (putS (putS ns t.1) t.2.1) ↔ _
    rw [h2 p, mem_putS, mem_putS]
    constructor
    · rintro (((h | rfl) | rfl) | ⟨u, hu, e⟩)
      · exact .inl h
      · exact .inr ⟨t, List.mem_cons_self .., .inl rfl⟩
      · exact .inr ⟨t, List.mem_cons_self .., .inr rfl⟩
      · exact .inr ⟨u, List.mem_cons_of_mem _ hu, e⟩
    · rintro (h | ⟨u, hu, e⟩)
      · exact .inl (.inl (.inl h))
      · rcases List.mem_cons.mp hu with rfl | hu
        · rcases e with rfl | rfl
          · exact .inl (.inl (.inr rfl))
          · exact .inl (.inr rfl)
        · exact .inr ⟨u, hu, e⟩
section
variable {s : Str} {L : List Tri}
theorem places_nd : (placesL s L).Nodup := (List.mergeSort_perm _ _).nodup_iff.mpr ((acc_ok L [s]).1 (by simp))
theorem places_mem (p : Str) : p ∈ placesL s L ↔ p = s ∨ ends L p := by
  show p ∈ (spotsAcc L [s]).mergeSort leSb ↔ _
  rw [(List.mergeSort_perm _ _).mem_iff, (acc_ok L [s]).2.1, List.mem_singleton]
end
/-! ### dicts with text keys and any values -/
/-! ### pieces_of -/
end RM
namespace RM
open PySem PySem.Spec PyProof.Rows L2 CS RZ
/-! ### k09: the program's side -/
theorem map_run {α : Type} {cg : CG} {tt : CT} {te : CE} {vs : List Nat} {ρ0 : En} {n : Nat} (enc : α → D) (p : α → Bool) (v : α → D) {k : List D → En → Nat → Prop} : ∀ (l : List α) (acc : List D),
    (∀ a ∈ l, ∃ ρ1, cg (enc a) ρ0 = some ρ1 ∧ wipeE ρ1 vs = ρ0 ∧ (∀ K1 : Bool → En → Nat → Prop, K1 (p a) ρ1 n → tt ρ1 n K1 kF) ∧ ∀ K2 : D → En → Nat → Prop, K2 (v a) ρ1 n → te ρ1 n K2 kF) →
    acc.length + l.length ≤ lim → k (acc ++ (l.filter p).map v) ρ0 n → cLcL cg tt te vs (l.map enc) ρ0 n acc k
  | [], acc, _, _, q => by simpa [cLcL] using q
  | a :: l, acc, h, hl, q => by
    obtain ⟨ρ1, h1, h2, h3, h4⟩ := h a (List.mem_cons_self ..)
    rw [List.length_cons] at hl
    refine ⟨ρ1, h1, h3 _ ?_⟩
    rw [List.filter_cons] at q
    cases c : p a with
    | true =>
      rw [c, if_pos rfl] at q
      refine h4 _ ⟨by omega, ?_⟩
      rw [h2]
      refine map_run enc p v l (acc ++ [v a]) (fun z hz => h z (List.mem_cons_of_mem _ hz)) (by rw [List.length_append, List.length_singleton]; omega) ?_
      rw [List.append_assoc]
      exact q
    | false =>
      rw [c, if_neg (by decide)] at q
      show cLcL cg tt te vs (l.map enc) (wipeE ρ1 vs) n acc k
      rw [h2]
      exact map_run enc p v l acc (fun z hz => h z (List.mem_cons_of_mem _ hz)) (by omega) q
theorem filter_true {α : Type} (l : List α) : l.filter (fun _ => true) = l := List.filter_eq_self.mpr fun _ _ => rfl
/-! ### pieces, why_none, is_had, need, end_of, turned_counts -/
structure Pc (s : Str) (L : List Tri) : Prop where
  cn : Cn L
  gs : GoodS s
  ll : L.length ≤ 30
  nn : ∀ p ∈ placesL s L, p ≠ "none"
abbrev labL (L : List Tri) : Str → Str := (L.map pr).foldl relab id
section
variable {s : Str} {L : List Tri}
theorem Pc.gp (c : Pc s L) : ∀ y ∈ placesL s L, GoodS y := fun y hy => by
  rcases (places_mem y).mp hy with rfl | ⟨t, ht, rfl | rfl⟩
  · exact c.gs
  · exact (c.cn.g t ht).1
  · exact (c.cn.g t ht).2
theorem ties_in : ∀ p ∈ L.map pr, p.1 ∈ placesL s L ∧ p.2 ∈ placesL s L := fun p hp => by
  obtain ⟨t, ht, rfl⟩ := List.mem_map.mp hp
  exact ⟨(places_mem _).mpr (.inr ⟨t, ht, .inl rfl⟩), (places_mem _).mpr (.inr ⟨t, ht, .inr rfl⟩)⟩
theorem start_in : s ∈ placesL s L := (places_mem s).mpr (.inl rfl)
def oversL (s : Str) (L : List Tri) : List Str := (placesL s L).filter fun p => over L p ≠ 0
def badN (s p : Str) (i : Int) : Bool := decide (i < -1) || (decide (1 < i) || (decide (0 < i) && !decide (p = s)))
def farL (s : Str) (L : List Tri) : List Str := (placesL s L).filter fun y => decide (y ∉ clsOf (placesL s L) (labL L) (labL L s))
def whyD (s : Str) (L : List Tri) : D := match (oversL s L).find? fun p => badN s p (over L p) with
  | some p => .tuple [.str "surplus", .str p]
  | none => match (farL s L).head? with
    | some p => .tuple [.str "apart", .str p]
    | none => .none
def hadL (s : Str) (L : List Tri) : Bool := noneB (whyD s L)
def endS (s : Str) (L : List Tri) : Str := ((oversL s L).find? fun p => decide (over L p < 0)).getD s
theorem over_none {p : Str} (h : ¬ ends L p) : over L p = 0 := by
  unfold over
  rw [List.filter_eq_nil_iff.mpr, List.filter_eq_nil_iff.mpr]
  · rfl
  · intro t ht
    simp only [decide_eq_true_eq]
    exact fun z => h ⟨t, ht, .inr z⟩
  · intro t ht
    simp only [decide_eq_true_eq]
    exact fun z => h ⟨t, ht, .inl z⟩
def turnT (t : Tri) : Tri := (t.2.1, t.1, t.2.2)
end
end RM
namespace RM
open PySem PySem.Spec PyProof.Rows L2 CS RZ
/-! ### k09: the law's side -/
theorem eqvAll_strs : ∀ a b : List Str, PyData.eqvAll (strD a) (strD b) = decide (a = b)
  | [], [] => by simp [strD, PyData.eqvAll]
  | [], _ :: _ => by simp [strD, PyData.eqvAll]
  | _ :: _, [] => by simp [strD, PyData.eqvAll]
  | x :: a, y :: b => by
    have ih := eqvAll_strs a b
    simp only [strD] at ih
    show (PyData.eqv (.str x) (.str y) && PyData.eqvAll (a.map PyData.str) (b.map PyData.str)) = _
    rw [RM.eqv_str, ih]
    by_cases h1 : x = y
    · by_cases h2 : a = b
      · simp [h1, h2]
      · simp [h1, h2]
    · simp [h1]
end RM
namespace RM
open PySem PySem.Spec PyProof.Rows L2 CS RZ
/-! ### k09: why none, the end -/
end RM
namespace RM
open PySem PySem.Spec PyProof.Rows L2 CS RZ
/-! ### k09: a case -/
section
variable {s : Str} {L : List Tri}
theorem end_in : endS s L ∈ placesL s L := by
  unfold endS
  cases e : (oversL s L).find? fun p => decide (over L p < 0) with
  | none => exact start_in
  | some p => exact (List.mem_filter.mp (List.mem_of_find?_eq_some e)).1
end
end RM
namespace RM
open PySem PySem.Spec PyProof.Rows L2 CS RZ
/-! ### k09: a drawn turn -/
theorem tag_none : ∀ s ∈ tagPool, s ≠ "none" := by decide +kernel
theorem pc_of {s : Str} {l : List Tri} (hF : Fine l) (hg : GoodL l) (hl : l.length ≤ 30) (gs : GoodS s) (ns : s ≠ "none") (nl : ∀ t ∈ l, t.1 ≠ "none" ∧ t.2.1 ≠ "none") : Pc s (canon l) where
  cn := cn_canon hF hg hl
  gs := gs
  ll := by have := canon_len l; omega
  nn := fun p hp => by
    rcases (places_mem p).mp hp with rfl | ⟨t, ht, e⟩
    · exact ns
    · obtain ⟨u, hu, e2⟩ := List.mem_map.mp (canon_mem ht).1
      have e1 : u.1 = t.1 := congrArg (fun p : Str × Str => p.1) e2
      have e3 : u.2.1 = t.2.1 := congrArg (fun p : Str × Str => p.2) e2
      rcases e with rfl | rfl
      · rw [← e1]
        exact (nl u hu).1
      · rw [← e3]
        exact (nl u hu).2
end RM
namespace RM
open PySem PySem.Spec PyProof.Rows L2 CS RZ
/-! ### k09 by hand -/
end RM
namespace RM
open PySem PySem.Spec PyProof.Rows L2 CS RZ
/-! ### k09 by hand, row by row -/
end RM
namespace RM
open PySem PySem.Spec PyProof.Rows L2 CS RZ
/-! ### an own error that keeps nothing, looked up -/
end RM
namespace RM
open PySem PySem.Spec PyProof.Rows L2 CS RZ
/-! ### steps that can be gone through: as many out as in, and all hang together -/
abbrev Ed := Str × Str
def outN (E : List Ed) (v : Str) : Nat := E.countP fun e => decide (e.1 = v)
def inN (E : List Ed) (v : Str) : Nat := E.countP fun e => decide (e.2 = v)
def one (a b : Str) : Int := if a = b then 1 else 0
def Deg (E : List Ed) (u t : Str) : Prop := ∀ v, (outN E v : Int) - inN E v = one v u - one v t
def Bal (E : List Ed) : Prop := ∀ v, outN E v = inN E v
def endOf : Str → List Str → Str
  | u, [] => u
  | _, b :: q => endOf b q
theorem bal_of {E : List Ed} {t : Str} (h : Deg E t t) : Bal E := fun v => by
  have := h v
  omega
theorem deg_of {E : List Ed} (t : Str) (h : Bal E) : Deg E t t := fun v => by
  have := h v
  omega
theorem outN_perm {E F : List Ed} (h : E.Perm F) (v : Str) : outN E v = outN F v := h.countP_eq _
theorem inN_perm {E F : List Ed} (h : E.Perm F) (v : Str) : inN E v = inN F v := h.countP_eq _
theorem outN_cons (e : Ed) (E : List Ed) (v : Str) : (outN (e :: E) v : Int) = outN E v + one v e.1 := by
  unfold outN one
  rw [List.countP_cons]
  by_cases c : e.1 = v
  · rw [decide_eq_true c, if_pos rfl, if_pos c.symm]
    rfl
  · rw [decide_eq_false c, if_neg (by decide), if_neg (Ne.symm c)]
    rfl
theorem inN_cons (e : Ed) (E : List Ed) (v : Str) : (inN (e :: E) v : Int) = inN E v + one v e.2 := by
  unfold inN one
  rw [List.countP_cons]
  by_cases c : e.2 = v
  · rw [decide_eq_true c, if_pos rfl, if_pos c.symm]
    rfl
  · rw [decide_eq_false c, if_neg (by decide), if_neg (Ne.symm c)]
    rfl
theorem outN_pos {E : List Ed} {v : Str} : 0 < outN E v ↔ ∃ e ∈ E, e.1 = v := by
  unfold outN
  rw [List.countP_pos_iff]
  simp only [decide_eq_true_eq]
theorem inN_pos {E : List Ed} {v : Str} : 0 < inN E v ↔ ∃ e ∈ E, e.2 = v := by
  unfold inN
  rw [List.countP_pos_iff]
  simp only [decide_eq_true_eq]
/-- one step is gone -/
theorem deg_step {R R1 : List Ed} {u b t : Str} (hp : R.Perm ((u, b) :: R1)) (h : Deg R u t) : Deg R1 b t := fun v => by
  have h1 := h v
  rw [outN_perm hp, inN_perm hp, outN_cons, inN_cons] at h1
  dsimp only at h1
  omega
theorem split_at {R : List Ed} {e : Ed} (h : e ∈ R) : ∃ R1 : List Ed, R.Perm (e :: R1) := by
  obtain ⟨a, b, rfl⟩ := List.append_of_mem h
  exact ⟨a ++ b, List.perm_middle⟩
/-- on and on, until one cannot go on: that is at t -/
theorem go_on {t : Str} : ∀ (k : Nat) (R : List Ed) (u : Str), R.length ≤ k → Deg R u t → ∃ (p : List Str) (R' : List Ed), (pairsOf (u :: p) ++ R').Perm R ∧ endOf u p = t ∧ Bal R' := by
  intro k
  induction k with
  | zero =>
    intro R u hl h
    have : R = [] := List.length_eq_zero_iff.mp (by omega)
    subst this
    have h1 := h u
    have e1 : one u u = 1 := if_pos rfl
    have e2 : ((outN [] u : Nat) : Int) = 0 := rfl
    have e3 : ((inN [] u : Nat) : Int) = 0 := rfl
    rw [e1, e2, e3] at h1
    by_cases c : u = t
    · subst c
      exact ⟨[], [], .nil, rfl, bal_of h⟩
    · have e4 : one u t = 0 := if_neg c
      omega
  | succ k ih =>
    intro R u hl h
    by_cases c : ∃ e ∈ R, e.1 = u
    · obtain ⟨⟨a, b⟩, he, rfl⟩ := c
      obtain ⟨R1, hp⟩ := split_at he
      have hl1 := hp.length_eq
      rw [List.length_cons] at hl1
      obtain ⟨p, R', h1, h2, h3⟩ := ih R1 b (by omega) (deg_step hp h)
      exact ⟨b :: p, R', (List.Perm.cons (a, b) h1).trans hp.symm, h2, h3⟩
    · have h0 : outN R u = 0 := by
        have : ¬ 0 < outN R u := fun z => c (outN_pos.mp z)
        omega
      have h1 := h u
      have e1 : one u u = 1 := if_pos rfl
      rw [e1, h0] at h1
      by_cases c2 : u = t
      · subst c2
        exact ⟨[], R, .refl _, rfl, bal_of h⟩
      · have e4 : one u t = 0 := if_neg c2
        omega
/-- a round from x -/
theorem go_round {R : List Ed} {x : Str} (h : Bal R) (hx : ∃ e ∈ R, e.1 = x) : ∃ (p : List Str) (R' : List Ed), p ≠ [] ∧ (pairsOf (x :: p) ++ R').Perm R ∧ endOf x p = x ∧ Bal R' := by
  obtain ⟨⟨a, b⟩, he, rfl⟩ := hx
  obtain ⟨R1, hp⟩ := split_at he
  obtain ⟨p, R', h1, h2, h3⟩ := go_on R1.length R1 b (Nat.le_refl _) (deg_step hp (deg_of a h))
  exact ⟨b :: p, R', by simp, (List.Perm.cons (a, b) h1).trans hp.symm, h2, h3⟩
theorem end_app : ∀ (u : Str) (p r : List Str), endOf u (p ++ r) = endOf (endOf u p) r
  | u, [], r => rfl
  | u, b :: p, r => end_app b p r
theorem pairs_app : ∀ (u : Str) (p r : List Str), pairsOf (u :: (p ++ r)) = pairsOf (u :: p) ++ pairsOf (endOf u p :: r)
  | u, [], r => rfl
  | u, b :: p, r => by
    show (u, b) :: pairsOf (b :: (p ++ r)) = (u, b) :: (pairsOf (b :: p) ++ pairsOf (endOf b p :: r))
    rw [pairs_app b p r]
theorem pairs_in : ∀ (u : Str) (p : List Str) (e : Ed), e ∈ pairsOf (u :: p) → e.1 ∈ u :: p ∧ e.2 ∈ u :: p := fun u p e h => pairs_both (u :: p) e h
/-- a round is put in where the way comes by -/
theorem put_in {s x : Str} {p c : List Str} (hx : x ∈ s :: p) (hc : endOf x c = x) : ∃ p' : List Str, (pairsOf (s :: p')).Perm (pairsOf (s :: p) ++ pairsOf (x :: c)) ∧ endOf s p' = endOf s p := by
  have key : ∀ (a b : List Str), endOf s a = x → ∃ p' : List Str, (pairsOf (s :: p')).Perm (pairsOf (s :: (a ++ b)) ++ pairsOf (x :: c)) ∧ endOf s p' = endOf s (a ++ b) := fun a b ha => by
    refine ⟨a ++ (c ++ b), ?_, by rw [end_app, end_app, end_app, ha, hc]⟩
    rw [pairs_app s a (c ++ b), ha, pairs_app x c b, hc, pairs_app s a b, ha, List.append_assoc]
    exact List.Perm.append_left _ List.perm_append_comm
  rcases List.mem_cons.mp hx with rfl | hx
  · exact key [] p rfl
  · obtain ⟨a, b, rfl⟩ := List.append_of_mem hx
    have : a ++ x :: b = (a ++ [x]) ++ b := by rw [List.append_assoc]; rfl
    rw [this]
    exact key (a ++ [x]) b (by rw [end_app]; rfl)
def Hang (E : List Ed) (s : Str) : Prop := ∀ V : Str → Prop, V s → (∀ e ∈ E, V e.1 ↔ V e.2) → ∀ e ∈ E, V e.1
theorem put_all {E : List Ed} {s t : Str} (hg : Hang E s) : ∀ (k : Nat) (p : List Str) (R : List Ed), R.length ≤ k → (pairsOf (s :: p) ++ R).Perm E → endOf s p = t → Bal R → ∃ p' : List Str, (pairsOf (s :: p')).Perm E ∧ endOf s p' = t := by
  intro k
  induction k with
  | zero =>
    intro p R hl h1 h2 _
    have : R = [] := List.length_eq_zero_iff.mp (by omega)
    subst this
    rw [List.append_nil] at h1
    exact ⟨p, h1, h2⟩
  | succ k ih =>
    intro p R hl h1 h2 h3
    by_cases c : ∃ e ∈ R, e.1 ∈ s :: p
    · obtain ⟨e, he, hx⟩ := c
      obtain ⟨q, R', n1, n2, n3, n4⟩ := go_round h3 ⟨e, he, rfl⟩
      obtain ⟨p', m1, m2⟩ := put_in hx n3
      have hl2 := n2.length_eq
      rw [List.length_append] at hl2
      have hl3 : 0 < (pairsOf (e.1 :: q)).length := by
        cases q with
        | nil => exact (n1 rfl).elim
        | cons b q => exact Nat.succ_pos _
      refine ih p' R' (by omega) ?_ (m2.trans h2) n4
      refine ((m1.append_right R').trans ?_).trans h1
      rw [List.append_assoc]
      exact n2.append_left _
    · by_cases hR : R = []
      · subst hR
        rw [List.append_nil] at h1
        exact ⟨p, h1, h2⟩
      · exfalso
        have c2 : ∀ e ∈ R, e.2 ∉ s :: p := fun e he hz => by
          have : 0 < outN R e.2 := by
            rw [h3 e.2]
            exact inN_pos.mpr ⟨e, he, rfl⟩
          obtain ⟨e', he', q⟩ := outN_pos.mp this
          exact c ⟨e', he', by rw [q]; exact hz⟩
        have all := hg (fun v => v ∈ s :: p) (List.mem_cons_self ..) fun e he => by
          rcases List.mem_append.mp (h1.mem_iff.mpr he) with h | h
          · have := pairs_in s p e h
            exact ⟨fun _ => this.2, fun _ => this.1⟩
          · exact ⟨fun z => (c ⟨e, h, z⟩).elim, fun z => (c2 e h z).elim⟩
        cases R with
        | nil => exact hR rfl
        | cons e R => exact c ⟨e, List.mem_cons_self .., all e (h1.mem_iff.mp (List.mem_append_right _ (List.mem_cons_self ..)))⟩
/-- there is a way -/
theorem way_is {E : List Ed} {s t : Str} (hd : Deg E s t) (hg : Hang E s) : ∃ p : List Str, (pairsOf (s :: p)).Perm E ∧ endOf s p = t := by
  obtain ⟨p, R, h1, h2, h3⟩ := go_on E.length E s (Nat.le_refl _) hd
  exact put_all hg R.length p R (Nat.le_refl _) h1 h2 h3
/-- and what a way has -/
theorem way_deg : ∀ (s : Str) (p : List Str), Deg (pairsOf (s :: p)) s (endOf s p)
  | s, [] => fun v => by
    show ((outN [] v : Nat) : Int) - (inN [] v : Nat) = one v s - one v s
    have e2 : ((outN [] v : Nat) : Int) = 0 := rfl
    have e3 : ((inN [] v : Nat) : Int) = 0 := rfl
    omega
  | s, b :: p => fun v => by
    have ih := way_deg b p v
    show ((outN ((s, b) :: pairsOf (b :: p)) v : Nat) : Int) - (inN ((s, b) :: pairsOf (b :: p)) v : Nat) = one v s - one v (endOf b p)
    rw [outN_cons, inN_cons]
    show _ + one v s - (_ + one v b) = _
    omega
theorem way_hang : ∀ (s : Str) (p : List Str) (V : Str → Prop), V s → (∀ e ∈ pairsOf (s :: p), V e.1 ↔ V e.2) → ∀ x ∈ s :: p, V x
  | s, [], V, hs, _ => fun x hx => by rw [List.mem_singleton.mp hx]; exact hs
  | s, b :: p, V, hs, h => fun x hx => by
    rcases List.mem_cons.mp hx with rfl | hx
    · exact hs
    · exact way_hang b p V ((h (s, b) (List.mem_cons_self ..)).mp hs) (fun e he => h e (List.mem_cons_of_mem _ he)) x hx
end RM
namespace RM
open PySem PySem.Spec PyProof.Rows L2 CS RZ
/-! ### a Counts is had exactly if some way makes its steps -/
def exL (L : List Tri) : List Ed := L.flatMap fun t => List.replicate t.2.2.toNat (pr t)
theorem over_eq (L : List Tri) (p : Str) : over L p = outsT L p - insT L p := rfl
theorem over_cons (t : Tri) (L : List Tri) (p : Str) : over (t :: L) p = over L p + ((if t.1 = p then t.2.2 else 0) + -(if t.2.1 = p then t.2.2 else 0)) := by
  rw [over_eq, over_eq, outsT_cons, insT_cons]
  omega
theorem out_ex : ∀ (L : List Tri) (v : Str), (∀ t ∈ L, 0 ≤ t.2.2) → (outN (exL L) v : Int) = outsT L v
  | [], v, _ => rfl
  | t :: L, v, h => by
    have ih := out_ex L v fun u hu => h u (List.mem_cons_of_mem _ hu)
    have h0 := h t (List.mem_cons_self ..)
    have e1 : exL (t :: L) = List.replicate t.2.2.toNat (pr t) ++ exL L := by unfold exL; rw [List.flatMap_cons]
    rw [e1, outsT_cons, ← ih]
    unfold outN
    rw [List.countP_append, List.countP_replicate]
    show ((((if decide (t.1 = v) = true then t.2.2.toNat else 0) + List.countP (fun e : Ed => decide (e.1 = v)) (exL L)) : Nat) : Int) = _
    by_cases c : t.1 = v
    · rw [decide_eq_true c, if_pos rfl, if_pos c]
      omega
    · rw [decide_eq_false c, if_neg (by decide), if_neg c]
      omega
theorem in_ex : ∀ (L : List Tri) (v : Str), (∀ t ∈ L, 0 ≤ t.2.2) → (inN (exL L) v : Int) = insT L v
  | [], v, _ => rfl
  | t :: L, v, h => by
    have ih := in_ex L v fun u hu => h u (List.mem_cons_of_mem _ hu)
    have h0 := h t (List.mem_cons_self ..)
    have e1 : exL (t :: L) = List.replicate t.2.2.toNat (pr t) ++ exL L := by unfold exL; rw [List.flatMap_cons]
    rw [e1, insT_cons, ← ih]
    unfold inN
    rw [List.countP_append, List.countP_replicate]
    show ((((if decide (t.2.1 = v) = true then t.2.2.toNat else 0) + List.countP (fun e : Ed => decide (e.2 = v)) (exL L)) : Nat) : Int) = _
    by_cases c : t.2.1 = v
    · rw [decide_eq_true c, if_pos rfl, if_pos c]
      omega
    · rw [decide_eq_false c, if_neg (by decide), if_neg c]
      omega
theorem deg_ex {L : List Tri} {u t : Str} (h : ∀ t ∈ L, 0 ≤ t.2.2) : Deg (exL L) u t ↔ ∀ v, over L v = one v u - one v t := by
  constructor
  · intro d v
    rw [over_eq, ← out_ex L v h, ← in_ex L v h]
    exact d v
  · intro d v
    rw [out_ex L v h, in_ex L v h, ← over_eq]
    exact d v
theorem mem_ex {L : List Tri} (hp : ∀ t ∈ L, 0 < t.2.2) (e : Ed) : e ∈ exL L ↔ e ∈ L.map pr := by
  unfold exL
  rw [List.mem_flatMap, List.mem_map]
  constructor
  · rintro ⟨t, ht, h⟩
    exact ⟨t, ht, (List.mem_replicate.mp h).2.symm⟩
  · rintro ⟨t, ht, rfl⟩
    have := hp t ht
    exact ⟨t, ht, List.mem_replicate.mpr ⟨by omega, rfl⟩⟩
/-! labels: what they hold together -/
theorem labs_closed (V : Str → Prop) : ∀ (ts : List Ed) (f : Str → Str), (∀ p ∈ ts, V p.1 ↔ V p.2) → (∀ x y, f x = f y → (V x ↔ V y)) → ∀ x y, (ts.foldl relab f) x = (ts.foldl relab f) y → (V x ↔ V y)
  | [], f, _, h => h
  | (a, b) :: ts, f, ht, h => by
    have hab := ht (a, b) (List.mem_cons_self ..)
    refine labs_closed V ts (relab f (a, b)) (fun p hp => ht p (List.mem_cons_of_mem _ hp)) fun x y e => ?_
    unfold relab at e
    dsimp only at e
    by_cases cx : f x = f a
    · rw [if_pos cx] at e
      by_cases cy : f y = f a
      · exact h x y (cx.trans cy.symm)
      · rw [if_neg cy] at e
        exact (h x a cx).trans (hab.trans (h b y e))
    · rw [if_neg cx] at e
      by_cases cy : f y = f a
      · rw [if_pos cy] at e
        exact (h x b e).trans (hab.symm.trans (h y a cy).symm)
      · rw [if_neg cy] at e
        exact h x y e
theorem relab_keep {f : Str → Str} {p : Ed} {x y : Str} (h : f x = f y) : relab f p x = relab f p y := by
  unfold relab
  rw [h]
theorem labs_keep : ∀ (ts : List Ed) (f : Str → Str) (x y : Str), f x = f y → (ts.foldl relab f) x = (ts.foldl relab f) y
  | [], _, _, _, h => h
  | p :: ts, f, x, y, h => labs_keep ts _ x y (relab_keep h)
theorem labs_tie : ∀ (ts : List Ed) (f : Str → Str), ∀ p ∈ ts, (ts.foldl relab f) p.1 = (ts.foldl relab f) p.2
  | [], _, p, h => (List.not_mem_nil h).elim
  | q :: ts, f, p, h => by
    rcases List.mem_cons.mp h with rfl | h
    · refine labs_keep ts _ _ _ ?_
      unfold relab
      rw [if_pos rfl]
      split <;> rfl
    · exact labs_tie ts _ p h
/-! sums over the places -/
theorem over_sum {ys : List Str} (hn : ys.Nodup) : ∀ L : List Tri, (∀ p, ends L p → p ∈ ys) → (ys.map fun y => over L y).sum = 0
  | [], _ => sum_zero ys
  | t :: L, h => by
    have ih := over_sum hn L fun p ⟨u, hu, q⟩ => h p ⟨u, List.mem_cons_of_mem _ hu, q⟩
    have e1 : (ys.map fun y => over (t :: L) y) = ys.map fun y => over L y + ((if t.1 = y then t.2.2 else 0) + (if t.2.1 = y then -t.2.2 else 0)) := List.map_congr_left fun y _ => by
      rw [over_cons]
      split <;> split <;> omega
    rw [e1, sum_add, sum_add, ih, sum_one hn, sum_one hn, if_pos (h _ ⟨t, List.mem_cons_self .., .inl rfl⟩), if_pos (h _ ⟨t, List.mem_cons_self .., .inr rfl⟩)]
    omega
theorem perm_sum {l m : List Int} (h : l.Perm m) : l.sum = m.sum := by
  induction h with
  | nil => rfl
  | cons x _ ih => rw [List.sum_cons, List.sum_cons, ih]
  | swap x y l =>
    rw [List.sum_cons, List.sum_cons, List.sum_cons, List.sum_cons]
    omega
  | trans _ _ h1 h2 => exact h1.trans h2
theorem sum_low (f : Str → Int) : ∀ zs : List Str, (∀ p ∈ zs, f p = 0 ∨ f p = -1) → (zs.map f).sum ≤ 0
  | [], _ => Int.le_refl _
  | z :: zs, h => by
    have := sum_low f zs fun p hp => h p (List.mem_cons_of_mem _ hp)
    rw [List.map_cons, List.sum_cons]
    rcases h z (List.mem_cons_self ..) with e | e <;> omega
theorem low_zero (f : Str → Int) : ∀ zs : List Str, (∀ p ∈ zs, f p = 0 ∨ f p = -1) → (zs.map f).sum = 0 → ∀ p ∈ zs, f p = 0
  | [], _, _, p, hp => (List.not_mem_nil hp).elim
  | z :: zs, h, hs, p, hp => by
    have hl := sum_low f zs fun p hp => h p (List.mem_cons_of_mem _ hp)
    rw [List.map_cons, List.sum_cons] at hs
    have hz := h z (List.mem_cons_self ..)
    rcases List.mem_cons.mp hp with rfl | hp
    · rcases hz with e | e <;> omega
    · exact low_zero f zs (fun p hp => h p (List.mem_cons_of_mem _ hp)) (by rcases hz with e | e <;> omega) p hp
theorem low_one (f : Str → Int) : ∀ zs : List Str, (∀ p ∈ zs, f p = 0 ∨ f p = -1) → (zs.map f).sum = -1 → ∃ t ∈ zs, f t = -1 ∧ ∀ p ∈ zs, p ≠ t → f p = 0
  | [], _, hs => by simp at hs
  | z :: zs, h, hs => by
    have h' := fun p hp => h p (List.mem_cons_of_mem z hp)
    rw [List.map_cons, List.sum_cons] at hs
    rcases h z (List.mem_cons_self ..) with e | e
    · obtain ⟨t, ht, h1, h2⟩ := low_one f zs h' (by omega)
      refine ⟨t, List.mem_cons_of_mem _ ht, h1, fun p hp ne => ?_⟩
      rcases List.mem_cons.mp hp with rfl | hp
      · exact e
      · exact h2 p hp ne
    · have hz := low_zero f zs h' (by omega)
      refine ⟨z, List.mem_cons_self .., e, fun p hp ne => ?_⟩
      rcases List.mem_cons.mp hp with rfl | hp
      · exact (ne rfl).elim
      · exact hz p hp
section
variable {s : Str} {L : List Tri}
/-- no place has too much: the way's end -/
theorem end_of_over (h : ∀ p ∈ placesL s L, badN s p (over L p) = false) : ∃ t, ∀ v, over L v = one v s - one v t := by
  have hs := over_sum (places_nd (s := s) (L := L)) L fun p hp => (places_mem p).mpr (.inr hp)
  have lo : ∀ p ∈ placesL s L, p ≠ s → over L p = 0 ∨ over L p = -1 := fun p hp ne => by
    have := h p hp
    simp only [badN, Bool.or_eq_false_iff, decide_eq_false_iff_not, Bool.and_eq_false_iff, Bool.not_eq_false', decide_eq_true_iff] at this
    obtain ⟨h1, h2, h3⟩ := this
    rcases h3 with h3 | h3
    · omega
    · exact (ne h3).elim
  have hi := h s start_in
  simp only [badN, Bool.or_eq_false_iff, decide_eq_false_iff_not] at hi
  obtain ⟨a, b, e⟩ := List.append_of_mem (start_in (s := s) (L := L))
  have perm : (placesL s L).Perm (s :: (a ++ b)) := by rw [e]; exact List.perm_middle
  have hsum : over L s + ((a ++ b).map fun y => over L y).sum = 0 := by
    have := perm_sum (perm.map fun y => over L y)
    rw [List.map_cons, List.sum_cons] at this
    omega
  have nd : (s :: (a ++ b)).Nodup := perm.nodup_iff.mp places_nd
  have ns := (List.nodup_cons.mp nd).1
  have lz : ∀ p ∈ a ++ b, over L p = 0 ∨ over L p = -1 := fun p hp => lo p (perm.mem_iff.mpr (List.mem_cons_of_mem _ hp)) fun z => ns (z ▸ hp)
  have hl := sum_low (fun y => over L y) (a ++ b) lz
  have out : ∀ v, v ∉ placesL s L → over L v = 0 := fun v hv => over_none fun z => hv ((places_mem v).mpr (.inr z))
  have one1 : ∀ v, one v v = 1 := fun v => if_pos rfl
  have one0 : ∀ v w : Str, v ≠ w → one v w = 0 := fun v w ne => if_neg ne
  by_cases c : over L s = 1
  · obtain ⟨t, ht, h1, h2⟩ := low_one (fun y => over L y) (a ++ b) lz (by omega)
    have nts : t ≠ s := fun z => ns (z ▸ ht)
    refine ⟨t, fun v => ?_⟩
    by_cases cv : v ∈ placesL s L
    · rcases List.mem_cons.mp (perm.mem_iff.mp cv) with rfl | hv
      · rw [one1, one0 _ _ (Ne.symm nts), c]
        rfl
      · have nvs : v ≠ s := fun z => ns (z ▸ hv)
        by_cases cvt : v = t
        · subst cvt
          rw [one1, one0 _ _ nvs]
          show over L v = 0 - 1
          rw [h1]
          rfl
        · rw [one0 _ _ nvs, one0 _ _ cvt]
          exact h2 v hv cvt
    · rw [out v cv, one0 v s fun z => cv (z ▸ start_in), one0 v t fun z => cv (z ▸ perm.mem_iff.mpr (List.mem_cons_of_mem _ ht))]
      rfl
  · have c0 : over L s = 0 := by omega
    have hz := low_zero (fun y => over L y) (a ++ b) lz (by omega)
    refine ⟨s, fun v => ?_⟩
    have : over L v = 0 := by
      by_cases cv : v ∈ placesL s L
      · rcases List.mem_cons.mp (perm.mem_iff.mp cv) with rfl | hv
        · exact c0
        · exact hz v hv
      · exact out v cv
    omega
end
end RM
namespace RM
open PySem PySem.Spec PyProof.Rows L2 CS RZ
/-! ### had: some way makes the steps; all ways end at endS -/
def Way (s : Str) (L : List Tri) (p : List Str) : Prop := (pairsOf (s :: p)).Perm (exL L)
section
variable {s : Str} {L : List Tri}
theorem had_iff : hadL s L = true ↔ (∀ p ∈ oversL s L, badN s p (over L p) = false) ∧ farL s L = [] := by
  unfold hadL whyD
  cases e : (oversL s L).find? fun p => badN s p (over L p) with
  | some p =>
    have h1 := List.find?_some e
    have h2 := List.mem_of_find?_eq_some e
    constructor
    · intro h
      cases h
    · rintro ⟨h, _⟩
      rw [h p h2] at h1
      cases h1
  | none =>
    have h1 := List.find?_eq_none.mp e
    cases e2 : farL s L with
    | nil => exact ⟨fun _ => ⟨fun p hp => Bool.eq_false_iff.mpr (h1 p hp), rfl⟩, fun _ => rfl⟩
    | cons y r =>
      constructor
      · intro h
        cases h
      · rintro ⟨_, h⟩
        cases h
theorem bad_zero {p : Str} : badN s p 0 = false := by simp [badN]
theorem had_all (h : ∀ p ∈ oversL s L, badN s p (over L p) = false) : ∀ p ∈ placesL s L, badN s p (over L p) = false := fun p hp => by
  by_cases c : over L p = 0
  · rw [c]
    exact bad_zero
  · exact h p (List.mem_filter.mpr ⟨hp, by simpa using c⟩)
theorem far_nil : farL s L = [] ↔ ∀ y ∈ placesL s L, labL L y = labL L s := by
  unfold farL
  rw [List.filter_eq_nil_iff]
  constructor
  · intro h y hy
    have := h y hy
    rw [decide_eq_true_iff, Decidable.not_not] at this
    exact (mem_cls.mp this).2
  · intro h y hy
    rw [decide_eq_true_iff, Decidable.not_not]
    exact mem_cls.mpr ⟨hy, h y hy⟩
theorem hang_L (hp : ∀ t ∈ L, 0 < t.2.2) (h : farL s L = []) : Hang (exL L) s := fun V hs hV e he => by
  have ht := (mem_ex hp e).mp he
  have key := labs_closed V (L.map pr) id (fun p hq => hV p ((mem_ex hp p).mpr hq)) (fun x y q => by rw [show x = y from q])
  have hy : e.1 ∈ placesL s L := (ties_in e ht).1
  exact (key e.1 s (far_nil.mp h e.1 hy)).mpr hs
theorem way_of_had (hp : ∀ t ∈ L, 0 < t.2.2) (h : hadL s L = true) : ∃ p, Way s L p := by
  obtain ⟨h1, h2⟩ := had_iff.mp h
  obtain ⟨t, ht⟩ := end_of_over (had_all h1)
  obtain ⟨p, w, _⟩ := way_is ((deg_ex fun t ht => Int.le_of_lt (hp t ht)).mpr ht) (hang_L hp h2)
  exact ⟨p, w⟩
theorem way_over (hp : ∀ t ∈ L, 0 < t.2.2) {p : List Str} (w : Way s L p) : ∀ v, over L v = one v s - one v (endOf s p) :=
  (deg_ex fun t ht => Int.le_of_lt (hp t ht)).mp fun v => by
    have := way_deg s p v
    rw [outN_perm w, inN_perm w] at this
    exact this
theorem one_le (a b : Str) : one a b = 0 ∨ one a b = 1 := by
  unfold one
  split
  · exact .inr rfl
  · exact .inl rfl
theorem had_of_way (hp : ∀ t ∈ L, 0 < t.2.2) {p : List Str} (w : Way s L p) : hadL s L = true := by
  refine had_iff.mpr ⟨fun v hv => ?_, far_nil.mpr fun y hy => ?_⟩
  · have h := way_over hp w v
    have a1 := one_le v s
    have a2 := one_le v (endOf s p)
    rw [h]
    by_cases c : v = s
    · unfold badN
      have h1 : ¬ (one v s - one v (endOf s p) < -1) := by omega
      have h2 : ¬ (1 < one v s - one v (endOf s p)) := by omega
      rw [decide_eq_false h1, decide_eq_false h2, decide_eq_true c]
      simp
    · have : one v s = 0 := if_neg c
      unfold badN
      have h1 : ¬ (one v s - one v (endOf s p) < -1) := by omega
      have h2 : ¬ (1 < one v s - one v (endOf s p)) := by omega
      have h3 : ¬ (0 < one v s - one v (endOf s p)) := by omega
      rw [decide_eq_false h1, decide_eq_false h2, decide_eq_false h3]
      simp
  · have key := way_hang s p (fun x => labL L x = labL L s) rfl fun e he => by
      have := labs_tie (L.map pr) id e ((mem_ex hp e).mp (w.mem_iff.mp he))
      show labL L e.1 = _ ↔ labL L e.2 = _
      rw [show labL L e.1 = labL L e.2 from this]
    refine key y ?_
    rcases (places_mem y).mp hy with rfl | ⟨t, ht, h⟩
    · exact List.mem_cons_self ..
    · have := pairs_in s p (pr t) (w.mem_iff.mpr ((mem_ex hp (pr t)).mpr (List.mem_map.mpr ⟨t, ht, rfl⟩)))
      rcases h with rfl | rfl
      · exact this.1
      · exact this.2
theorem way_end (hp : ∀ t ∈ L, 0 < t.2.2) {p : List Str} (w : Way s L p) : endS s L = endOf s p := by
  have h := way_over hp w
  unfold endS
  cases e : (oversL s L).find? fun q => decide (over L q < 0) with
  | some q =>
    have h0 := List.find?_some e
    have h1 : over L q < 0 := of_decide_eq_true h0
    rw [h q] at h1
    have a1 := one_le q s
    by_cases c : q = endOf s p
    · exact c
    · have : one q (endOf s p) = 0 := if_neg c
      omega
  | none =>
    have h1 := List.find?_eq_none.mp e
    by_cases c : s = endOf s p
    · exact c
    · exfalso
      have e1 : one (endOf s p) (endOf s p) = 1 := if_pos rfl
      have e2 : one (endOf s p) s = 0 := if_neg (Ne.symm c)
      have ho := h (endOf s p)
      rw [e1, e2] at ho
      have hin : endOf s p ∈ placesL s L := by
        by_cases z : endOf s p ∈ placesL s L
        · exact z
        · have := over_none (L := L) (p := endOf s p) fun q => z ((places_mem _).mpr (.inr q))
          omega
      have := h1 (endOf s p) (List.mem_filter.mpr ⟨hin, by rw [ho]; decide⟩)
      rw [ho] at this
      exact this (by decide)
end
end RM
namespace RM
open PySem PySem.Spec PyProof.Rows L2 CS RZ
/-! ### one step less -/
def lessT (L : List Tri) (e : Ed) : List Tri := (leftT L [(e.1, e.2, 1)]).filter fun t => decide (0 < t.2.2)
def minus1 (e : Ed) (t : Tri) : Tri := (t.1, t.2.1, t.2.2 - if e = pr t then 1 else 0)
theorem left_one (L : List Tri) (e : Ed) : leftT L [(e.1, e.2, 1)] = L.map (minus1 e) := by
  unfold leftT
  refine List.map_congr_left fun t _ => ?_
  show (t.1, t.2.1, t.2.2 - numAt [(e.1, e.2, 1)] (pr t)) = _
  rw [numAt_cons]
  show (t.1, t.2.1, t.2.2 - if e = pr t then 1 else numAt [] (pr t)) = _
  rfl
theorem pr_minus (e : Ed) (t : Tri) : pr (minus1 e t) = pr t := rfl
section
variable {L : List Tri} {e : Ed}
theorem less_mem {t : Tri} (ht : t ∈ lessT L e) : ∃ u ∈ L, pr u = pr t ∧ 0 < t.2.2 := by
  obtain ⟨h1, h2⟩ := List.mem_filter.mp ht
  rw [left_one] at h1
  obtain ⟨u, hu, rfl⟩ := List.mem_map.mp h1
  exact ⟨u, hu, rfl, of_decide_eq_true h2⟩
theorem less_pr : ((lessT L e).map pr).Sublist (L.map pr) := by
  unfold lessT
  rw [left_one]
  have h1 : ((L.map (minus1 e)).map pr) = L.map pr := by rw [List.map_map]; rfl
  rw [← h1]
  exact List.filter_sublist.map pr
theorem less_cn (c : Cn L) : Cn (lessT L e) where
  g := fun t ht => by
    obtain ⟨u, hu, q, _⟩ := less_mem ht
    rw [← q]
    exact c.g u hu
  fine := fun t ht => by
    obtain ⟨u, hu, q, q2⟩ := less_mem ht
    have h1 : u.1 = t.1 := congrArg (fun p : Str × Str => p.1) q
    have h2 : u.2.1 = t.2.1 := congrArg (fun p : Str × Str => p.2) q
    rw [← h1, ← h2]
    exact ⟨(c.fine u hu).1, Int.le_of_lt q2⟩
  pos := fun t ht => (less_mem ht).choose_spec.2.2
  len := by
    have := less_pr (L := L) (e := e).length_le
    rw [List.length_map, List.length_map] at this
    exact Nat.le_trans this c.len
  nd := c.nd.sublist less_pr
  pw := c.pw.sublist less_pr
theorem ex_filter : ∀ l : List Tri, exL (l.filter fun t => decide (0 < t.2.2)) = exL l
  | [] => rfl
  | t :: l => by
    have ih := ex_filter l
    have e1 : exL (t :: l) = List.replicate t.2.2.toNat (pr t) ++ exL l := by unfold exL; rw [List.flatMap_cons]
    rw [List.filter_cons, e1, ← ih]
    by_cases c : 0 < t.2.2
    · rw [if_pos (decide_eq_true c)]
      unfold exL
      rw [List.flatMap_cons]
    · rw [if_neg (by simpa using c)]
      have : t.2.2.toNat = 0 := by omega
      rw [this]
      rfl
theorem minus_same : ∀ l : List Tri, (∀ t ∈ l, pr t ≠ e) → l.map (minus1 e) = l
  | [], _ => rfl
  | t :: l, h => by
    rw [List.map_cons, minus_same l fun u hu => h u (List.mem_cons_of_mem _ hu)]
    congr 1
    have := h t (List.mem_cons_self ..)
    show (t.1, t.2.1, t.2.2 - if e = pr t then 1 else 0) = t
    rw [if_neg (Ne.symm this), Int.sub_zero]
theorem less_perm (c : Cn L) (he : e ∈ L.map pr) : (exL L).Perm (e :: exL (lessT L e)) := by
  unfold lessT
  rw [ex_filter, left_one]
  obtain ⟨t, ht, rfl⟩ := List.mem_map.mp he
  obtain ⟨A, B, rfl⟩ := List.append_of_mem ht
  have nd := c.nd
  rw [List.map_append, List.map_cons] at nd
  have nA : ∀ u ∈ A, pr u ≠ pr t := fun u hu q => (List.nodup_append.mp nd).2.2 (pr u) (List.mem_map_of_mem hu) (pr t) (List.mem_cons_self ..) q
  have nB : ∀ u ∈ B, pr u ≠ pr t := fun u hu q => (List.nodup_cons.mp (List.nodup_append.mp nd).2.1).1 (by rw [← q]; exact List.mem_map_of_mem hu)
  have hp := c.pos t ht
  rw [List.map_append, List.map_cons, minus_same A nA, minus_same B nB]
  have e1 : ∀ u : Tri, exL (A ++ u :: B) = exL A ++ (List.replicate u.2.2.toNat (pr u) ++ exL B) := fun u => by
    unfold exL
    rw [List.flatMap_append, List.flatMap_cons]
  rw [e1, e1]
  have e2 : (minus1 (pr t) t).2.2.toNat = t.2.2.toNat - 1 := by
    show (t.2.2 - if pr t = pr t then 1 else 0).toNat = _
    rw [if_pos rfl]
    omega
  rw [e2, pr_minus]
  have e3 : t.2.2.toNat = (t.2.2.toNat - 1) + 1 := by omega
  have e4 : List.replicate t.2.2.toNat (pr t) = pr t :: List.replicate (t.2.2.toNat - 1) (pr t) := by
    rw [e3, List.replicate_succ]
    rfl
  rw [e4]
  exact List.perm_middle
end
section
variable {s b : Str} {L : List Tri} {p : List Str}
theorem way_cons (c : Cn L) : Way s L (b :: p) ↔ (s, b) ∈ L.map pr ∧ Way b (lessT L (s, b)) p := by
  unfold Way
  show ((s, b) :: pairsOf (b :: p)).Perm (exL L) ↔ _
  constructor
  · intro h
    have hm : (s, b) ∈ L.map pr := (mem_ex c.pos _).mp (h.mem_iff.mp (List.mem_cons_self ..))
    exact ⟨hm, List.Perm.cons_inv (h.trans (less_perm c hm))⟩
  · rintro ⟨hm, h⟩
    exact (List.Perm.cons (s, b) h).trans (less_perm c hm).symm
theorem ex_len : ∀ L : List Tri, (∀ t ∈ L, 0 ≤ t.2.2) → ((exL L).length : Int) = (L.map fun t => t.2.2).sum
  | [], _ => rfl
  | t :: l, h => by
    have ih := ex_len l fun u hu => h u (List.mem_cons_of_mem _ hu)
    have h0 := h t (List.mem_cons_self ..)
    have e1 : exL (t :: l) = List.replicate t.2.2.toNat (pr t) ++ exL l := by unfold exL; rw [List.flatMap_cons]
    rw [e1, List.length_append, List.length_replicate, List.map_cons, List.sum_cons, ← ih]
    omega
theorem less_len (c : Cn L) (he : (s, b) ∈ L.map pr) : (exL L).length = (exL (lessT L (s, b))).length + 1 := (less_perm c he).length_eq
/-- the first steps of all ways -/
def openS (s : Str) (L : List Tri) : List Str := ((L.filter fun t => decide (t.1 = s)).map fun t => t.2.1).filter fun b => hadL b (lessT L (s, b))
theorem open_mem (c : Cn L) : b ∈ openS s L ↔ ∃ p, Way s L (b :: p) := by
  unfold openS
  rw [List.mem_filter, List.mem_map]
  constructor
  · rintro ⟨⟨t, ht, rfl⟩, h⟩
    obtain ⟨h1, h2⟩ := List.mem_filter.mp ht
    have h3 := of_decide_eq_true h2
    obtain ⟨p, w⟩ := way_of_had (less_cn c).pos h
    exact ⟨p, (way_cons c).mpr ⟨List.mem_map.mpr ⟨t, h1, by rw [← h3]; rfl⟩, w⟩⟩
  · rintro ⟨p, w⟩
    obtain ⟨hm, w⟩ := (way_cons c).mp w
    obtain ⟨t, ht, e⟩ := List.mem_map.mp hm
    refine ⟨⟨t, List.mem_filter.mpr ⟨ht, decide_eq_true (congrArg (fun p : Str × Str => p.1) e)⟩, congrArg (fun p : Str × Str => p.2) e⟩, had_of_way (less_cn c).pos w⟩
end
end RM
namespace RM
open PySem PySem.Spec PyProof.Rows L2 CS RZ
/-! ### not in, of an own class -/
/-! ### gone, open_steps, some_journey -/
end RM
namespace RM
open PySem PySem.Spec PyProof.Rows L2 CS RZ
/-! ### a, b = [], [..]: two new lists -/
end RM
namespace RM
open PySem PySem.Spec PyProof.Rows L2 CS RZ
/-! ### all ways, by following -/
abbrev Nd := List Str × Str × List Tri
def kids (L : List Tri) (u : Str) : List Tri := L.filter fun t => decide (t.1 = u)
def kid (x : Nd) (t : Tri) : Nd := (x.1 ++ [x.2.1], t.2.1, lessT x.2.2 (pr t))
def nodes : Nat → Nd → Nat
  | 0, _ => 1
  | m + 1, x => 1 + ((kids x.2.2 x.2.1).map fun t => nodes m (kid x t)).sum
def sz (x : Nd) : Nat := (exL x.2.2).length
abbrev nn (x : Nd) : Nat := nodes (sz x) x
structure NOk (x : Nd) : Prop where
  g : ∀ y ∈ x.1 ++ [x.2.1], GoodS y
  c : Cn x.2.2
  l : x.1.length + sz x ≤ 50
theorem kids_in {L : List Tri} {u : Str} {t : Tri} (h : t ∈ kids L u) : t ∈ L ∧ t.1 = u := by
  obtain ⟨h1, h2⟩ := List.mem_filter.mp h
  exact ⟨h1, of_decide_eq_true h2⟩
theorem kid_sz {x : Nd} {t : Tri} (c : Cn x.2.2) (h : t ∈ x.2.2) : sz x = sz (kid x t) + 1 := (less_perm (e := pr t) c (List.mem_map_of_mem h)).length_eq
theorem NOk.kid {x : Nd} (h : NOk x) {t : Tri} (ht : t ∈ kids x.2.2 x.2.1) : NOk (kid x t) where
  g := fun y hy => by
    rcases List.mem_append.mp hy with hy | hy
    · exact h.g y hy
    · rw [List.mem_singleton.mp hy]
      exact (h.c.g t (kids_in ht).1).2
  c := less_cn h.c
  l := by
    have := kid_sz h.c (kids_in ht).1
    have := h.l
    show (x.1 ++ [x.2.1]).length + _ ≤ 50
    rw [List.length_append, List.length_singleton]
    omega
/-! how many there can be -/
def nb : Nat → Nat
  | 0 => 1
  | m + 1 => 1 + (m + 1) * nb m
theorem sum_bound {α : Type} (f : α → Nat) (k : Nat) : ∀ l : List α, (∀ a ∈ l, f a ≤ k) → (l.map f).sum ≤ l.length * k
  | [], _ => Nat.zero_le _
  | a :: l, h => by
    have h1 := h a (List.mem_cons_self ..)
    have h2 := sum_bound f k l fun b hb => h b (List.mem_cons_of_mem _ hb)
    rw [List.map_cons, List.sum_cons, List.length_cons, Nat.add_mul]
    omega
theorem len_ex : ∀ L : List Tri, (∀ t ∈ L, 0 < t.2.2) → L.length ≤ (exL L).length
  | [], _ => Nat.le_refl _
  | t :: L, h => by
    have ih := len_ex L fun u hu => h u (List.mem_cons_of_mem _ hu)
    have h0 := h t (List.mem_cons_self ..)
    have e1 : exL (t :: L) = List.replicate t.2.2.toNat (pr t) ++ exL L := by unfold exL; rw [List.flatMap_cons]
    rw [e1, List.length_append, List.length_replicate, List.length_cons]
    omega
/-! what they are -/
end RM
namespace RM
open PySem PySem.Spec PyProof.Rows L2 CS RZ
/-! ### k10: one less, and all ways, over data -/
end RM
namespace RM
open PySem PySem.Spec PyProof.Rows L2 CS RZ
/-! ### k10: a case -/
end RM
namespace RM
open PySem PySem.Spec PyProof.Rows L2 CS RZ
/-! ### sorted(set(e)), e a long list of few texts -/
end RM
namespace RM
open PySem PySem.Spec PyProof.Rows L2 CS RZ
/-! ### k10: the case, to its end -/
end RM
namespace RM
open PySem PySem.Spec PyProof.Rows L2 CS RZ
/-! ### k10: near, and a drawn turn -/
def totT (l : List Tri) : Int := (l.map fun t => t.2.2).sum
theorem totT_cons (t : Tri) (l : List Tri) : totT (t :: l) = t.2.2 + totT l := by
  unfold totT
  rw [List.map_cons, List.sum_cons]
theorem some_of : ∀ (ps : List (Str × Str)) (q : Str × Str) (x : Int), ps.Nodup → 0 ≤ x → (ps.map fun p => if q = p then x else 0).sum ≤ x
  | [], q, x, _, h => h
  | p :: ps, q, x, hn, h => by
    obtain ⟨h1, h2⟩ := List.nodup_cons.mp hn
    rw [List.map_cons, List.sum_cons]
    by_cases c : q = p
    · rw [if_pos c]
      have : (ps.map fun p => if q = p then x else 0).sum = 0 := by
        have key : ∀ ps : List (Str × Str), q ∉ ps → (ps.map fun p => if q = p then x else 0).sum = 0 := by
          intro ps
          induction ps with
          | nil => intro _; rfl
          | cons a ps ih =>
            intro hq
            rw [List.mem_cons, not_or] at hq
            rw [List.map_cons, List.sum_cons, if_neg hq.1, ih hq.2]
            rfl
        exact key ps (c ▸ h1)
      omega
    · rw [if_neg c]
      have := some_of ps q x h2 h
      omega
theorem sum_some (ps : List (Str × Str)) (hn : ps.Nodup) : ∀ l : List Tri, (∀ t ∈ l, 0 ≤ t.2.2) → (ps.map (sumAt l)).sum ≤ totT l
  | [], _ => by
    have key : ∀ ps : List (Str × Str), (ps.map (sumAt [])).sum = 0 := by
      intro ps
      induction ps with
      | nil => rfl
      | cons a ps ih =>
        rw [List.map_cons, List.sum_cons, ih]
        rfl
    rw [key]
    exact Int.le_refl 0
  | t :: l, h => by
    have h1 := sum_some ps hn l fun u hu => h u (List.mem_cons_of_mem _ hu)
    have h2 := some_of ps (pr t) t.2.2 hn (h t (List.mem_cons_self ..))
    rw [totT_cons]
    have key : ∀ ps : List (Str × Str), (ps.map (sumAt (t :: l))).sum = (ps.map fun p => if pr t = p then t.2.2 else 0).sum + (ps.map (sumAt l)).sum := by
      intro ps
      induction ps with
      | nil => rfl
      | cons a ps ih =>
        simp only [List.map_cons, List.sum_cons]
        rw [ih, sumAt_cons]
        omega
    rw [key]
    omega
theorem tot_canon {l : List Tri} (h : ∀ t ∈ l, 0 ≤ t.2.2) : totT (canon l) ≤ totT l := by
  have e1 : totT (canon l) = (((canon l).map pr).map (sumAt l)).sum := by
    unfold totT
    rw [List.map_map]
    exact congrArg List.sum (List.map_congr_left fun t ht => (canon_mem ht).2.2)
  rw [e1]
  exact sum_some _ (canon_nodup l) l h
structure Nc (m : Int) (ss : List Str) (l : List Tri) : Prop where
  ok : ∀ t ∈ l, t.1 ∈ ss ∧ t.2.1 ∈ ss ∧ t.1 ≠ t.2.1 ∧ 0 ≤ t.2.2
  len : l.length ≤ 30
  tot : totT l ≤ m
theorem Nc.fine {m : Int} {ss : List Str} {l : List Tri} (h : Nc m ss l) : Fine l := fun t ht => (h.ok t ht).2.2
theorem Nc.ex {ss : List Str} {l : List Tri} (h : Nc 10 ss l) : (exL (canon l)).length ≤ 10 := by
  have h1 := ex_len (canon l) fun t ht => Int.le_of_lt (canon_mem ht).2.1
  have h2 := tot_canon fun t ht => (h.ok t ht).2.2.2
  have h3 := h.tot
  unfold totT at h2 h3
  omega
/-! ### a drawn turn -/
end RM
namespace RM
open PySem PySem.Spec PyProof.Rows L2 CS RZ
/-! ### a value-level expression inside a bare one -/
/-! ### k10: the six given cases -/
end RM
namespace RM
open PySem PySem.Spec PyProof.Rows L2 CS RZ
/-! ### k11: the first of all journeys is the least one -/
end RM
namespace RM
open PySem PySem.Spec PyProof.Rows L2 CS RZ
/-! ### all journeys of at most eleven steps over at most six places -/
theorem nd_len : ∀ (xs ss : List Str), xs.Nodup → (∀ x ∈ xs, x ∈ ss) → xs.length ≤ ss.length
  | [], _, _, _ => Nat.zero_le _
  | x :: xs, ss, hn, h => by
    obtain ⟨h1, h2⟩ := List.nodup_cons.mp hn
    have h3 := h x (List.mem_cons_self ..)
    have h4 := nd_len xs (ss.erase x) h2 fun y hy => (List.mem_erase_of_ne (fun z : y = x => h1 (by rw [← z]; exact hy))).mpr (h y (List.mem_cons_of_mem _ hy))
    have h5 := List.length_erase_of_mem h3
    have h6 := List.length_pos_of_mem h3
    rw [List.length_cons]
    omega
def nb5 : Nat → Nat
  | 0 => 1
  | m + 1 => 1 + min (m + 1) 5 * nb5 m
theorem nb5_eleven : nb5 11 = 5097656 := by decide
theorem nb5_mono : ∀ {a b : Nat}, a ≤ b → nb5 a ≤ nb5 b
  | a, 0, h => by
    have : a = 0 := by omega
    rw [this]
    exact Nat.le_refl _
  | a, b + 1, h => by
    by_cases c : a = b + 1
    · rw [c]
      exact Nat.le_refl _
    · have h1 := nb5_mono (a := a) (b := b) (by omega)
      show nb5 a ≤ 1 + min (b + 1) 5 * nb5 b
      have h2 : nb5 b ≤ min (b + 1) 5 * nb5 b := Nat.le_mul_of_pos_left _ (by omega)
      omega
theorem kids_five {L : List Tri} {u : Str} {ss : List Str} (c : Cn L) (h : ∀ t ∈ L, t.1 ∈ ss ∧ t.2.1 ∈ ss) (h6 : ss.length ≤ 6) : (kids L u).length ≤ 5 := by
  cases e : kids L u with
  | nil => exact Nat.zero_le _
  | cons t0 r =>
    rw [← e]
    have hu : u ∈ ss := by
      have h1 := kids_in (L := L) (u := u) (t := t0) (by rw [e]; exact List.mem_cons_self ..)
      rw [← h1.2]
      exact (h t0 h1.1).1
    have nd : ((kids L u).map fun t => t.2.1).Nodup := by
      have nf : ((kids L u).map pr).Nodup := c.nd.sublist (List.filter_sublist.map _)
      refine List.pairwise_map.mpr ((List.pairwise_map.mp nf).imp_of_mem fun {t v} ht hv h z => h ?_)
      show (t.1, t.2.1) = (v.1, v.2.1)
      rw [(kids_in ht).2, (kids_in hv).2, z]
    have := nd_len (u :: (kids L u).map fun t => t.2.1) ss (List.nodup_cons.mpr ⟨fun z => by
      obtain ⟨t, ht, e2⟩ := List.mem_map.mp z
      obtain ⟨h1, h2⟩ := kids_in ht
      exact (c.fine t h1).1 (by rw [h2, e2]), nd⟩) fun y hy => by
      rcases List.mem_cons.mp hy with rfl | hy
      · exact hu
      · obtain ⟨t, ht, rfl⟩ := List.mem_map.mp hy
        exact (h t (kids_in ht).1).2
    rw [List.length_cons, List.length_map] at this
    omega
theorem nodes_five {ss : List Str} (h6 : ss.length ≤ 6) : ∀ (m : Nat) (x : Nd), NOk x → sz x = m → (∀ t ∈ x.2.2, t.1 ∈ ss ∧ t.2.1 ∈ ss) → nodes m x ≤ nb5 m
  | 0, x, _, _, _ => Nat.le_refl _
  | m + 1, x, h, hm, hs => by
    have h1 := sum_bound (fun t => nodes m (kid x t)) (nb5 m) (kids x.2.2 x.2.1) fun t ht => nodes_five h6 m (kid x t) (h.kid ht) (by have := kid_sz h.c (kids_in ht).1; omega) fun u hu => by
      obtain ⟨v, hv, e1, _⟩ := less_mem hu
      have := hs v hv
      have e2 : v.1 = u.1 := congrArg (fun p : Str × Str => p.1) e1
      have e3 : v.2.1 = u.2.1 := congrArg (fun p : Str × Str => p.2) e1
      rw [e2, e3] at this
      exact this
    have h2 : (kids x.2.2 x.2.1).length ≤ m + 1 := by
      have a1 : (kids x.2.2 x.2.1).length ≤ x.2.2.length := List.length_filter_le _ _
      have a2 := len_ex x.2.2 h.c.pos
      have a3 : (exL x.2.2).length = m + 1 := hm
      omega
    have h5 := kids_five (u := x.2.1) h.c hs h6
    have h3 : (kids x.2.2 x.2.1).length * nb5 m ≤ min (m + 1) 5 * nb5 m := Nat.mul_le_mul_right _ (by omega)
    show 1 + _ ≤ 1 + min (m + 1) 5 * nb5 m
    omega
theorem nn_five {ss : List Str} {s : Str} {L : List Tri} (gs : GoodS s) (c : Cn L) (h6 : ss.length ≤ 6) (hs : ∀ t ∈ L, t.1 ∈ ss ∧ t.2.1 ∈ ss) (hl : (exL L).length ≤ 11) : nn ([], s, L) ≤ 9864101 := by
  have ok : NOk ([], s, L) := ⟨fun y hy => by rw [List.mem_singleton.mp hy]; exact gs, c, by show 0 + (exL L).length ≤ 50; omega⟩
  have h1 := nodes_five h6 (sz ([], s, L)) ([], s, L) ok rfl hs
  have h2 := nb5_mono (a := sz ([], s, L)) (b := 11) hl
  rw [nb5_eleven] at h2
  have h3 : nn ([], s, L) = nodes (sz ([], s, L)) ([], s, L) := rfl
  omega
end RM
namespace RM
open PySem PySem.Spec PyProof.Rows L2 CS RZ
/-! ### k11: gone, also where there is no such step -/
end RM
namespace RM
open PySem PySem.Spec PyProof.Rows L2 CS RZ
/-! ### k11: a drawn turn -/
end RM
namespace RM
open PySem PySem.Spec PyProof.Rows L2 CS RZ
/-! ### k11: what is left, or what lacks -/
end RM
namespace RM
open PySem PySem.Spec PyProof.Rows L2 CS RZ
/-! ### v = f(m); if t: return ..; v.append(e), f's list being new: behind it v is not read -/
end RM
namespace RM
open PySem PySem.Spec PyProof.Rows L2 CS RZ
/-! ### k11: a case, its beginning -/
end RM
namespace RM
open PySem PySem.Spec PyProof.Rows L2 CS RZ
/-! ### k11: a case, its middle -/
end RM
namespace RM
open PySem PySem.Spec PyProof.Rows L2 CS RZ
/-! ### k11: a case, its end -/
end RM
namespace RM
open PySem PySem.Spec PyProof.Rows L2 CS RZ
/-! ### f(k2 = x, k1 = y): a def called by names, in another order -/
def pickL {α : Type} (is : List Nat) (l : List α) : List α := is.filterMap fun i => l[i]?
theorem IsL.pick {T : Tab} {H : Hp} {v : List V} {d : List D} (h : IsL T H v d) : ∀ is : List Nat, IsL T H (pickL is v) (pickL is d)
  | [] => .nil
  | i :: is => by
    have ih := h.pick is
    unfold pickL at ih ⊢
    rw [List.filterMap_cons, List.filterMap_cons]
    cases e : d[i]? with
    | none =>
      have e2 : v[i]? = none := by
        rw [List.getElem?_eq_none_iff] at e ⊢
        rw [h.length]
        exact e
      rw [e2]
      exact ih
    | some x =>
      obtain ⟨y, e2, r⟩ := h.get e
      rw [e2]
      exact .cons r ih
theorem vals_at : ∀ {vs : List V} {us : List Value}, Vals vs us → ∀ i : Nat, (vs[i]? = none ∧ us[i]? = none) ∨ ∃ v u, vs[i]? = some v ∧ us[i]? = some u ∧ Vals [v] [u]
  | _, _, .nil, i => .inl ⟨rfl, rfl⟩
  | _, _, .cons h r, 0 => .inr ⟨_, _, rfl, rfl, .cons h .nil⟩
  | _, _, .cons h r, i + 1 => by
    rw [List.getElem?_cons_succ, List.getElem?_cons_succ]
    exact vals_at r i
theorem vals_pick {vs : List V} {us : List Value} (h : Vals vs us) : ∀ is : List Nat, Vals (pickL is vs) (pickL is us)
  | [] => .nil
  | i :: is => by
    have ih := vals_pick h is
    unfold pickL at ih ⊢
    rw [List.filterMap_cons, List.filterMap_cons]
    rcases vals_at h i with ⟨e1, e2⟩ | ⟨v, u, e1, e2, r⟩
    · rw [e1, e2]
      exact ih
    · rw [e1, e2]
      cases r with
      | cons r _ => exact .cons r ih
structure HasFP (P : Program) (w : World) (K : PySem.W.Frag) (mg : Str → Option Value) (base : Heap) (CX : CXT) (g : Glob) (k : Nat) (x : Str) (ps ks : List Str) (is : List Nat) (sd : SpD) : Prop where
  ex : ∃ f fd, FnOk P w K mg base CX k f fd ps (spD g sd) ∧ (∃ gs, KBn K fd ps 0 ks gs (fun vs zs => vs ++ pickL is zs)) ∧ PySem.W.keepIn K (.ref f) = true ∧ mg x = some (.ref f)
def cCallP (N : Nat) (is : List Nat) (sd : SpD) (ta : CA) : CE := fun ρ n k ke => ta ρ n (fun ds ρ1 n1 => ds.length = N ∧ sd (pickL is ds) n1 (fun d n2 => k d ρ1 n2) (fun y n2 => ke y ρ1 n2)) ke
section
variable {X : Cx} {g : Glob} {xk : WX} {pos p : Pos} {CX : CXT} {j k : Nat} {x : Str} {ps ks : List Str} {is : List Nat} {ta : CA} {sd : SpD}
theorem pd_funP {kws : List Keyword} (h : HasFP X.prog X.w X.K X.mg X.base CX g j x ps ks is sd) (hr : Room k X.A) (l : j ≤ k) (hg : Gl X x) (hx : ∀ σ, PassesAt CX X σ (WE xk σ)) (ha : PDKw X g xk kws ta)
    (hall : (backToKw pos (keywordEach kws X.env)).all (·.1.isSome) = true := by rfl) (hks : (backToKw pos (keywordEach kws X.env)).filterMap (·.1) = ks := by rfl) (hdb : (x == ("__debug__" : Str)) = false := by decide)
    (hpl : ((backTo pos (starEach [] X.env)).any (·.1) || (backToKw pos (keywordEach kws X.env)).any (·.1.isNone)) = false := by rfl) : PD X g xk (.Call (.Name x p) [] kws pos) (cCallP ks.length is sd ta) := by
  obtain ⟨f, fd, F, ⟨gs, hb⟩, hk, hm⟩ := h.ex
  refine ⟨⟨fun pins s σ H Q I h => ?_⟩⟩
  obtain ⟨C, ρ, n, O, kk, ke, hK, E, t, xl, q⟩ := h
  refine wpAny_Call_Name_kw (ld_glob I hg hm ?_ hdb)
  refine PySem.W.callWith_KW0 (first := []) (h₀ := X.base) I.ok.mod.kin hk hall ?_ hpl
  refine thn (ha.pk.run pos pins s σ H (fun vs H2 => vs.length = ks.length ∧ spD g sd (pickL is vs) H2 Q (WE xk σ)) I ⟨C, ρ, n, O, _, ke, hK, E, t, xl, fun ds ρ2 n2 vs H2 O2 k2 E2 S2 i2 => ⟨by rw [i2.length]; exact k2.1,
    spD_use hK E2 xl (i2.pick is) k2.2 fun d n' v H' a b c i => q _ _ _ _ _ _ a b (S2.trans c) i⟩⟩) fun ws s3 ⟨zs, H2, I3, r2, l2, q2⟩ => ⟨I3.kIn, ?_⟩
  rw [hks]
  exact run_kw (us := []) (vs := []) (E := WE xk) F (hr.mono l) hb (hx σ) I3 .nil r2 rfl (r2.length.symm.trans l2) q2
end
theorem kb_names {K : PySem.W.Frag} {x qual : Str} {st : Stmt} {f : Addr} {fd : FuncData} {ps ks : List Str} {is : List Nat} (F : Fun K x qual st f fd)
    (h : ∀ (kV doc pm : Value) (an : Option Addr) (cdv ct : Value) (ws : List Value), ws.length = ks.length → bindArgs (PySem.W.fnOf x qual (defArgs st) (defBody st) (defScope st) .none kV doc pm an cdv ct) ⟨[], ks.zip ws⟩ = pure (ps.zip (pickL is ws))) :
    ∃ gs, KBn K fd ps 0 ks gs (fun vs zs => vs ++ pickL is zs) := by
  obtain ⟨oc, od, kV, doc, pm, an, cdv, ct, osl, rfl, lk, hcd⟩ := F.ex
  refine ⟨fun us ws => us ++ pickL is ws, fun s us ws _ hu hw => ?_, fun r1 r2 => ?_⟩
  · match us, hu with
    | [], _ => exact .of_eq (h kV doc pm an cdv ct ws hw)
  · induction r1 with
    | nil => exact vals_pick r2 is
    | cons a _ ih => exact .cons a ih
end RM
namespace RM
open PySem PySem.Spec PyProof.Rows L2 CS RZ
/-! ### k11 by hand: what is due -/
end RM
namespace RM
open PySem PySem.Spec PyProof.Rows L2 CS RZ
/-! ### k11 by hand -/
end RM
namespace RM
open PySem PySem.Spec PyProof.Rows L2 CS RZ
/-! ### k13: rounds added to a journey -/
theorem over_ext {l m : List Tri} (h : ∀ p, sumAt l p = sumAt m p) (v : Str) : over l v = over m v := by
  have hc : ∀ p, ends l p → p ∈ placesL v (l ++ m) := fun p ⟨t, ht, q⟩ => (places_mem p).mpr (.inr ⟨t, List.mem_append_left _ ht, q⟩)
  have hd : ∀ p, ends m p → p ∈ placesL v (l ++ m) := fun p ⟨t, ht, q⟩ => (places_mem p).mpr (.inr ⟨t, List.mem_append_right _ ht, q⟩)
  have nd := places_nd (s := v) (L := l ++ m)
  have e1 : ((placesL v (l ++ m)).map fun y => sumAt l (v, y)) = (placesL v (l ++ m)).map fun y => sumAt m (v, y) := List.map_congr_left fun y _ => h _
  have e2 : ((placesL v (l ++ m)).map fun y => sumAt l (y, v)) = (placesL v (l ++ m)).map fun y => sumAt m (y, v) := List.map_congr_left fun y _ => h _
  rw [over_eq, over_eq, ← sum_outs nd v l hc, ← sum_outs nd v m hd, ← sum_ins nd v l hc, ← sum_ins nd v m hd, e1, e2]
theorem over_canon {l : List Tri} (h : Fine l) (v : Str) : over (canon l) v = over l v := over_ext (fun p => sumAt_canon' h p) v
theorem ex_step : ∀ l : List Ed, exL (l.map fun p => ((p.1, p.2, 1) : Tri)) = l
  | [] => rfl
  | p :: l => by
    have ih := ex_step l
    unfold exL at ih ⊢
    rw [List.map_cons, List.flatMap_cons, ih]
    rfl
theorem over_step (s : Str) (p : List Str) (v : Str) : over (stepT (s :: p)) v = one v s - one v (endOf s p) := by
  refine (deg_ex (L := stepT (s :: p)) (fun t ht => ?_)).mp ?_ v
  · obtain ⟨q, _, rfl⟩ := List.mem_map.mp ht
    show (0 : Int) ≤ 1
    decide
  · unfold stepT
    rw [ex_step]
    exact way_deg s p
theorem count_ex : ∀ (L : List Tri) (e : Ed), (∀ t ∈ L, 0 ≤ t.2.2) → ((exL L).count e : Int) = sumAt L e
  | [], e, _ => rfl
  | t :: L, e, h => by
    have ih := count_ex L e fun u hu => h u (List.mem_cons_of_mem _ hu)
    have h0 := h t (List.mem_cons_self ..)
    have e1 : exL (t :: L) = List.replicate t.2.2.toNat (pr t) ++ exL L := by unfold exL; rw [List.flatMap_cons]
    rw [e1, sumAt_cons, ← ih, List.count_append, List.count_replicate]
    by_cases c : pr t = e
    · rw [if_pos c, if_pos (by simpa using c)]
      omega
    · rw [if_neg c, if_neg (by simpa using c)]
      omega
theorem drop_pairs : ∀ (k : Nat) (l : List Str), ∀ e ∈ pairsOf (l.drop k), e ∈ pairsOf l
  | 0, l, e, h => h
  | k + 1, [], e, h => h
  | k + 1, [a], e, h => by
    rw [List.drop_succ_cons, List.drop_nil] at h
    exact h
  | k + 1, a :: b :: l, e, h => by
    rw [List.drop_succ_cons] at h
    exact List.mem_cons_of_mem _ (drop_pairs k (b :: l) e h)
/-- what is found, not yet added up -/
structure Fd (row : List Str) (l : List Tri) : Prop where
  fine : Fine l
  sub : ∀ t ∈ l, pr t ∈ pairsOf row
  ov : ∀ v, over l v = over (stepT row) v
  ge : ∀ e, sumAt (stepT row) e ≤ sumAt l e
theorem step_pr (row : List Str) : (stepT row).map pr = pairsOf row := by
  unfold stepT
  rw [List.map_map]
  exact List.map_id' _
theorem fd_start {row : List Str} (j : Jn row) : Fd row (canon (stepT row)) where
  fine := fine_canon j.fine
  sub := fun t ht => by
    have := (canon_mem ht).1
    rwa [step_pr] at this
  ov := over_canon j.fine
  ge := fun e => by rw [sumAt_canon' j.fine]; exact Int.le_refl _
/-! the Counts of it -/
structure Rd (s : Str) (p : List Str) (L : List Tri) : Prop where
  pc : Pc s L
  ov : ∀ v, over L v = one v s - one v (endOf s p)
  sub : ∀ e ∈ L.map pr, e ∈ pairsOf (s :: p)
  ge : ∀ e, (pairsOf (s :: p)).count e ≤ (exL L).count e
theorem nodup_le {α : Type} [DecidableEq α] : ∀ {a b : List α}, a.Nodup → (∀ x ∈ a, x ∈ b) → a.length ≤ b.length
  | [], _, _, _ => Nat.zero_le _
  | x :: a, b, hn, h => by
    obtain ⟨h1, h2⟩ := List.nodup_cons.mp hn
    have hx := h x (List.mem_cons_self ..)
    have := nodup_le (b := b.erase x) h2 fun y hy => (List.mem_erase_of_ne (fun z : y = x => h1 (z ▸ hy))).mpr (h y (List.mem_cons_of_mem _ hy))
    have l := List.length_erase_of_mem hx
    have : 0 < b.length := List.length_pos_of_mem hx
    rw [List.length_cons]
    omega
theorem rd_of {s : Str} {p : List Str} {l : List Tri} (j : Jn (s :: p)) (hl : (s :: p).length ≤ 31) (hn : ∀ y ∈ s :: p, y ≠ "none") (f : Fd (s :: p) l) : Rd s p (canon l) where
  pc := {
    cn := ⟨good_canon fun t ht => by
        have := pairs_in s p _ (f.sub t ht)
        exact ⟨j.good _ this.1, j.good _ this.2⟩, fine_canon f.fine, fun t ht => (canon_mem ht).2.1, by
        have h1 := nodup_le (b := pairsOf (s :: p)) (canon_nodup l) fun e he => by
          obtain ⟨t, ht, rfl⟩ := List.mem_map.mp he
          obtain ⟨u, hu, q⟩ := List.mem_map.mp (canon_mem ht).1
          rw [← q]
          exact f.sub u hu
        rw [List.length_map, pairs_len] at h1
        omega, canon_nodup l, List.pairwise_map.mpr (canon_pw l)⟩
    gs := j.good s (List.mem_cons_self ..)
    ll := by
      have h1 := nodup_le (b := pairsOf (s :: p)) (canon_nodup l) fun e he => by
        obtain ⟨t, ht, rfl⟩ := List.mem_map.mp he
        obtain ⟨u, hu, q⟩ := List.mem_map.mp (canon_mem ht).1
        rw [← q]
        exact f.sub u hu
      rw [List.length_map, pairs_len] at h1
      omega
    nn := fun y hy => by
      rcases (places_mem y).mp hy with rfl | ⟨t, ht, e⟩
      · exact hn _ (List.mem_cons_self ..)
      · obtain ⟨u, hu, q⟩ := List.mem_map.mp (canon_mem ht).1
        have := pairs_in s p _ (f.sub u hu)
        rw [q] at this
        rcases e with rfl | rfl
        · exact hn _ this.1
        · exact hn _ this.2 }
  ov := fun v => by rw [over_canon f.fine, f.ov, over_step]
  sub := fun e he => by
    obtain ⟨t, ht, rfl⟩ := List.mem_map.mp he
    obtain ⟨u, hu, q⟩ := List.mem_map.mp (canon_mem ht).1
    rw [← q]
    exact f.sub u hu
  ge := fun e => by
    have h1 := count_ex (canon l) e fun t ht => (fine_canon f.fine t ht).2
    have h2 := count_ex (stepT (s :: p)) e fun t ht => (j.fine t ht).2
    have h3 := f.ge e
    unfold stepT at h2
    rw [ex_step] at h2
    rw [sumAt_canon' f.fine] at h1
    have h4 : sumAt (stepT (s :: p)) e = sumAt ((pairsOf (s :: p)).map fun p => ((p.1, p.2, 1) : Tri)) e := rfl
    omega
section
variable {s b : Str} {p q : List Str} {L : List Tri}
theorem Rd.mem (r : Rd s p L) {e : Ed} : e ∈ exL L ↔ e ∈ pairsOf (s :: p) := by
  constructor
  · intro h
    exact r.sub e ((mem_ex r.pc.cn.pos e).mp h)
  · intro h
    have h1 := r.ge e
    have h2 : 0 < (pairsOf (s :: p)).count e := List.count_pos_iff.mpr h
    exact List.count_pos_iff.mp (by omega)
theorem Rd.way (r : Rd s p L) : ∃ w, Way s L w ∧ endOf s w = endOf s p := by
  refine way_is ((deg_ex fun t ht => Int.le_of_lt (r.pc.cn.pos t ht)).mpr r.ov) fun V hs hV e he => ?_
  have := way_hang s p V hs fun e he => hV e (r.mem.mpr he)
  exact this e.1 (pairs_in s p e (r.mem.mp he)).1
theorem Rd.fin (r : Rd s p L) : endS s L = endOf s p := by
  obtain ⟨w, h, e⟩ := r.way
  rw [way_end r.pc.cn.pos h, e]
end
end RM
namespace RM
open PySem PySem.Spec PyProof.Rows L2 CS RZ
/-! ### k13: turned, and in one piece -/
section
variable {s b n0 n1 : Str} {p q : List Str} {L : List Tri}
theorem sum_turn : ∀ (l : List Tri) (a b : Str), sumAt (l.map turnT) (a, b) = sumAt l (b, a)
  | [], _, _ => rfl
  | t :: l, a, b => by
    rw [List.map_cons, sumAt_cons, sumAt_cons, sum_turn l a b]
    have : (pr (turnT t) = (a, b)) ↔ (pr t = (b, a)) := by
      show ((t.2.1, t.1) : Ed) = (a, b) ↔ ((t.1, t.2.1) : Ed) = (b, a)
      simp only [Prod.mk.injEq]
      exact And.comm
    by_cases c : pr t = (b, a)
    · rw [if_pos c, if_pos (this.mpr c)]
      rfl
    · rw [if_neg c, if_neg fun z => c (this.mp z)]
theorem fine_turn (h : Fine L) : Fine (L.map turnT) := fun t ht => by
  obtain ⟨u, hu, rfl⟩ := List.mem_map.mp ht
  exact ⟨(h u hu).1.symm, (h u hu).2⟩
theorem good_turn (h : GoodL L) : GoodL (L.map turnT) := fun t ht => by
  obtain ⟨u, hu, rfl⟩ := List.mem_map.mp ht
  exact ⟨(h u hu).2, (h u hu).1⟩
def turnL (L : List Tri) : List Tri := canon (L.map turnT)
theorem endOf_mem : ∀ (s : Str) (p : List Str), endOf s p ∈ s :: p
  | s, [] => List.mem_cons_self ..
  | s, b :: p => List.mem_cons_of_mem _ (endOf_mem b p)
theorem Rd.turn_pc (r : Rd s p L) : Pc (endOf s p) (turnL L) := by
  have hin : ∀ y ∈ s :: p, y ∈ placesL s L := fun y hy => by
    have := way_hang s p (fun y => y ∈ placesL s L) start_in (fun e he => by
      have h1 := ties_in (s := s) e ((mem_ex r.pc.cn.pos e).mp (r.mem.mpr he))
      exact ⟨fun _ => h1.2, fun _ => h1.1⟩)
    exact this y hy
  have hz := hin _ (endOf_mem s p)
  refine pc_of (fine_turn r.pc.cn.fine) (good_turn r.pc.cn.g) (by rw [List.length_map]; exact r.pc.ll) (r.pc.gp _ hz) (r.pc.nn _ hz) fun t ht => ?_
  obtain ⟨u, hu, rfl⟩ := List.mem_map.mp ht
  have := ties_in (s := s) (pr u) (List.mem_map_of_mem hu)
  exact ⟨r.pc.nn _ this.2, r.pc.nn _ this.1⟩
/-! one piece -/
/-! one step more -/
end
end RM
namespace RM
open PySem PySem.Spec PyProof.Rows L2 CS RZ
/-! ### k13: a round apart -/
def isYo (x : Str) : Prop := x = "yonder" ∨ x = "thither"
section
variable {s : Str} {p : List Str} {L : List Tri}
/-- no place of the journey is over there -/
def NoYo (s : Str) (L : List Tri) : Prop := ∀ y ∈ placesL s L, ¬ isYo y
end
end RM
namespace RM
open PySem PySem.Spec PyProof.Rows L2 CS RZ
/-! ### k13: the rounds, as the law makes them -/
theorem atD_row {row : List Str} {k : Nat} {x : Str} (h : row[k]? = some x) : atD (.tuple (strD row)) (.int (k : Nat)) = some (.str x) := by
  show atI (strD row) (k : Int) = _
  refine atI_nat ?_
  unfold strD
  rw [List.getElem?_map, h]
  rfl
end RM
namespace RM
open PySem PySem.Spec PyProof.Rows L2 CS RZ
/-! ### is not True; rows of texts in a list -/
theorem rowT_eqv (a b : List Str) : PyData.eqv (rowT a) (rowT b) = decide (a = b) := by
  have : PyData.eqv (rowT a) (rowT b) = PyData.eqvAll (strD a) (strD b) := by simp [rowT, PyData.eqv]
  rw [this, eqvAll_strs]
end RM
namespace RM
open PySem PySem.Spec PyProof.Rows L2 CS RZ
/-! ### k13: a drawn turn -/
structure T13 (ss : List Str) (s : Str) (p : List Str) (L : List Tri) : Prop where
  s1 : ss.Nodup
  s2 : 3 ≤ ss.length
  s3 : ss.length ≤ 6
  s4 : ∀ x ∈ ss, x ∈ tagPool
  w : Wk ss (s :: p) s (endOf s p)
  hl : (s :: p).length ≤ 22
  r : Rd s p L
  ll : L.length ≤ 25
  ny : NoYo s L
section
variable {e : EndsD} {n : Nat} {t1 t2 t3 t4 t5 t6 t7 t8 : Option Sl} {ss : List Str} {s b n0 n1 : Str} {p q' : List Str} {L : List Tri}
theorem T13.gs (T : T13 ss s p L) : ∀ y ∈ s :: p, GoodS y := fun y hy => tag_good y (T.s4 y (T.w.ins y hy))
end
end RM
namespace RM
open PySem PySem.Spec PyProof.Rows L2 CS RZ
/-! ### k13: one step more, a round apart -/
end RM
namespace RM
open PySem PySem.Spec PyProof.Rows L2 CS RZ
/-! ### xs.remove(y), of data -/
end RM
namespace RM
open PySem PySem.Spec PyProof.Rows L2 CS RZ
/-! ### a slice as a new list; a, b = [..], x; from the bare heap with a box in use -/
def sdRightN (N M : Nat) : SpD := fun ds n k _ => ds = [boxD] ∧ n ≤ N ∧ ∀ n', n' ≤ n + M → k (.bool true) n'
theorem right_impN {N M : Nat} {g : Glob} {vs : List V} {H : Hp} {Q : VK} {E : XK} (h : ∃ (b : Addr) (n : Nat), vs = [.ref b] ∧ BoxAt H b n ∧ n ≤ N ∧ ∀ (H' : Hp) (n' : Nat), (∀ c o, c ≠ b → H c = some o → H' c = some o) → BoxAt H' b n' → n' ≤ n + M → Q (.bl true) H') : spD g (sdRightN N M) vs H Q E := by
  obtain ⟨b, n, rfl, hb, hn, q⟩ := h
  refine ⟨{ T := ⟨g.K, g.cls, some b⟩, Z := fun a => a = b, H0 := H }, [boxD], n, fun d n' => d = .bool true ∧ n' ≤ n + M, fun _ _ => False, ⟨rfl, rfl⟩, rfl, ev_bare rfl rfl (fun a z => by rw [show a = b from z]) (fun b' h => ?_), .cons (.box rfl) .nil, ⟨rfl, hn, fun n' h => ⟨rfl, h⟩⟩, fun d n' v H' hd F i => ?_, fun _ _ _ _ _ h => h.elim⟩
  · have e : b = b' := Option.some.inj h
    subst e
    exact ⟨rfl, hb⟩
  · obtain ⟨rfl, hn'⟩ := hd
    rw [isBl i]
    exact q H' n' (fun c o hc ho => F.keep c o ho fun z => hc (Option.some.inj z).symm) (F.box b rfl) hn'
theorem nil_ok : okE (.list []) = true := (OkN.list (k := 0) (ds := []) fun d hd => by cases hd).ok (by decide)
end RM
namespace RM
open PySem PySem.Spec PyProof.Rows L2 CS RZ
/-! ### k76: the sure beginning -/
def sureP : Nat → Str → List Tri → List Str
  | 0, _, _ => []
  | m + 1, s, L => match openS s L with
    | [b] => b :: sureP m b (lessT L (s, b))
    | _ => []
section
variable {s b : Str} {L : List Tri}
theorem way_len {p : List Str} (w : Way s L p) : p.length = (exL L).length := by
  have := w.length_eq
  rw [pairs_len, List.length_cons] at this
  omega
theorem sure_prefix : ∀ (m : Nat) (s : Str) (L : List Tri) (p : List Str), Cn L → (exL L).length = m → Way s L p → sureP m s L <+: p
  | 0, s, L, p, c, hm, w => List.nil_prefix
  | m + 1, s, L, p, c, hm, w => by
    show (match openS s L with | [b] => b :: sureP m b (lessT L (s, b)) | _ => []) <+: p
    cases e : openS s L with
    | nil => exact List.nil_prefix
    | cons b r =>
      cases r with
      | cons b2 r => exact List.nil_prefix
      | nil =>
        have hl := way_len w
        cases p with
        | nil => rw [hm] at hl; cases hl
        | cons x q =>
          have hx : x ∈ openS s L := (open_mem c).mpr ⟨q, w⟩
          rw [e] at hx
          have := List.mem_singleton.mp hx
          subst this
          obtain ⟨h1, h2⟩ := (way_cons c).mp w
          exact (List.cons_prefix_cons.mpr ⟨rfl, sure_prefix m x _ q (less_cn c) (by have := less_len c h1; omega) h2⟩)
end
section
variable {e : EndsD} {n : Nat}
def sureE (s : Str) (p : List Str) (L : List Tri) : List Str := (endOf s p :: sureP (exL (turnL L)).length (endOf s p) (turnL L)).reverse
end
end RM
namespace RM
open PySem PySem.Spec PyProof.Rows L2 CS RZ
/-! ### k76: what rows share -/
/-! rows turned -/
def swE (e : Ed) : Ed := (e.2, e.1)
theorem pairs_revP : ∀ l : List Str, (pairsOf l.reverse).Perm ((pairsOf l).map swE)
  | [] => .nil
  | [a] => .nil
  | a :: b :: r => by
    have ih := pairs_revP (b :: r)
    rw [List.reverse_cons, List.reverse_cons, pairs_snoc, pairs_cons, List.map_cons, ← List.reverse_cons]
    exact (List.perm_append_comm.trans (List.Perm.refl _ : ([(b, a)] ++ pairsOf (b :: r).reverse).Perm ((b, a) :: pairsOf (b :: r).reverse))).trans (List.Perm.cons _ ih)
theorem count_sw : ∀ (l : List Ed) (e : Ed), (l.map swE).count (swE e) = l.count e
  | [], _ => rfl
  | a :: l, e => by
    rw [List.map_cons, List.count_cons, List.count_cons, count_sw l e]
    by_cases c : a = e
    · subst c
      simp
    · have c2 : ¬ swE a = swE e := fun z => c (by
        have z1 := congrArg (fun p : Ed => p.1) z
        have z2 := congrArg (fun p : Ed => p.2) z
        exact Prod.ext z2 z1)
      rw [if_neg (by simpa using c2), if_neg (by simpa using c)]
theorem ex_turn {L : List Tri} (c : Cn L) (ct : Cn (turnL L)) : (exL (turnL L)).Perm ((exL L).map swE) := by
  refine List.perm_iff_count.mpr fun e => ?_
  have h1 := count_ex (turnL L) e fun t ht => Int.le_of_lt (ct.pos t ht)
  have h2 := count_ex L (swE e) fun t ht => Int.le_of_lt (c.pos t ht)
  have h3 : sumAt (turnL L) e = sumAt L (swE e) := by
    unfold turnL
    rw [sumAt_canon' (fine_turn c.fine)]
    exact sum_turn L e.1 e.2
  have h4 : ((exL L).map swE).count e = (exL L).count (swE e) := by
    exact count_sw (exL L) (swE e)
  omega
section
variable {s : Str} {L : List Tri} {p : List Str}
theorem rev_row : ∀ (s : Str) (p : List Str), ∃ w, (s :: p).reverse = endOf s p :: w
  | s, [] => ⟨[], rfl⟩
  | s, b :: p => by
    obtain ⟨w, e⟩ := rev_row b p
    exact ⟨w ++ [s], by rw [List.reverse_cons, e]; rfl⟩
theorem way_turn (c : Cn L) (ct : Cn (turnL L)) (w : Way s L p) : ∃ w', (s :: p).reverse = endOf s p :: w' ∧ Way (endOf s p) (turnL L) w' := by
  obtain ⟨w', e⟩ := rev_row s p
  refine ⟨w', e, ?_⟩
  unfold Way
  rw [← e]
  exact ((pairs_revP (s :: p)).trans (w.map swE)).trans (ex_turn c ct).symm
end
end RM
namespace RM
open PySem PySem.Spec PyProof.Rows L2 CS RZ
/-! ### k76: what all journeys share -/
/-! ### k76: whether what is left hangs together -/
end RM
namespace RM
open PySem PySem.Spec PyProof.Rows L2 CS RZ
/-! ### k76: the law's own closure -/
end RM
namespace RM
open PySem PySem.Spec PyProof.Rows L2 CS RZ
/-! ### k76: a walk's own bound; where a journey stands on its sure beginning -/
def sdWalkB : SpD := fun ds n k _ => ∃ (ss : List Str) (most : Int), ds = [boxD, .list (strD ss), .int most] ∧ ss.Nodup ∧ 2 ≤ ss.length ∧ ss.length ≤ 8 ∧ (∀ s ∈ ss, GoodS s) ∧ n ≤ 700000 ∧ 0 ≤ most ∧ most ≤ 50 ∧
  ∀ (a z : Str) (row : List Str) (n' : Nat), Wk ss row a z → row.length ≤ most.toNat + 1 → n' ≤ n + 200 → k (.tuple (strD row)) n'
theorem himp_walkB {e : EndsD} (ds : List D) (n : Nat) (k : D → Nat → Prop) (ke : Xv → Nat → Prop) (h : sdWalkB ds n k ke) (he : e.rt = k) : cs_walk (startE n_walk ds) n e := by
  obtain ⟨ss, most, rfl, hn, h2, h8, hg, hN, m0, m1, q⟩ := h
  subst he
  have h200 : (1000 : Int) < 2 ^ 200 := by decide
  refine ⟨.list (strD ss), strD ss, rfl, rfl, by omega, by rw [strD_len]; omega, by rw [strD_len]; omega, fun d hd => ?_⟩
  obtain ⟨a, ha, rfl⟩ := List.mem_map.mp hd
  refine ⟨by show 1 ≤ lim; decide, by show 3 < 8; decide, ?_⟩
  refine ⟨.int (most + 1), rfl, most + 1, rfl, by omega, by omega, by omega, fun r r0 r1 => ?_⟩
  refine ⟨r, rfl, ⟨by omega, by omega⟩, ?_⟩
  have hr := range_len r
  refine walk_loop hn h2 h8 hg _ [a] a none none none (n + 1 + 1) (by omega) (by rw [List.length_singleton]; omega) ⟨⟨[], rfl⟩, ⟨[], rfl⟩, fun s hs => by rw [List.mem_singleton.mp hs]; exact ha, fun p hp => by cases hp⟩ fun row z t4 t5 t6 n3 w l1 hn3 => ?_
  rw [List.length_singleton] at l1
  have gz : GoodS z := by
    obtain ⟨r, er⟩ := w.tl
    exact hg z (w.ins z (by rw [er]; simp))
  have zl : atD (.list (strD row)) (.int (-1)) = some (.str z) := by
    obtain ⟨r, er⟩ := w.tl
    rw [er]
    exact atI_last
  have zf : atD (.list (strD row)) (.int 0) = some (.str a) := by
    obtain ⟨r, er⟩ := w.hd
    rw [er]
    exact atI_zero _ _
  have ll : (strD row).length = row.length := strD_len row
  have fin : ∀ (n4 : Nat), n4 ≤ n3 + 1 → walkt4 (fw ss row most t4 t5 t6) n4 e := fun n4 h4 => ⟨_, ⟨_, _, rfl, rfl, rfl⟩, q a z row n4 w (by omega) (by omega)⟩
  refine ⟨rfl, 1, rfl, _, _, rfl, zl, rfl, _, _, rfl, zf, _, neD_str gz (hg a ha), _, rfl, ?_⟩
  by_cases c : z = a
  · rw [decide_eq_true c]
    exact fin n3 (by omega)
  · rw [decide_eq_false c]
    refine ⟨rfl, .list (strD row), .int (strD row).length, rfl, ⟨_, _, rfl, rfl, rfl⟩, rfl, .bool (decide (((strD row).length : Int) ≤ most)), rfl, _, rfl, ?_⟩
    by_cases c2 : ((strD row).length : Int) ≤ most
    · rw [decide_eq_true c2]
      refine ⟨3, rfl, by omega, by decide, by decide, fun r r0 r1 => ⟨.bool (r == 0), rfl, _, rfl, ?_⟩⟩
      cases cr : r == 0 with
      | false => exact fin (n3 + 1) (Nat.le_refl _)
      | true =>
        refine ⟨⟨_, rfl⟩, rfl, _, .str a, rfl, zf, strD row, rfl, by rw [ll]; unfold lim; omega, ?_⟩
        have e1 : strD row ++ [PyData.str a] = strD (row ++ [a]) := by
          unfold strD
          rw [List.map_append]
          rfl
        rw [e1]
        exact ⟨_, ⟨_, _, rfl, rfl, rfl⟩, q a a (row ++ [a]) (n3 + 1) (w.snoc ha fun z => c z.symm) (by rw [List.length_append, List.length_singleton]; omega) (by omega)⟩
    · rw [decide_eq_false c2]
      exact fin n3 (by omega)
abbrev Lr (s : Str) (p : List Str) : List Tri := canon (stepT (s :: p))
theorem cn_row {s : Str} {p : List Str} (j : Jn (s :: p)) (hl : (s :: p).length ≤ 31) : Cn (Lr s p) := cn_canon j.fine (fun t ht => by
    obtain ⟨q, hq, rfl⟩ := List.mem_map.mp ht
    exact ⟨j.good _ (pairs_mem hq).1, j.good _ (pairs_mem hq).2⟩) (by rw [step_len]; omega)
theorem ex_row {s : Str} {p : List Str} (j : Jn (s :: p)) (hl : (s :: p).length ≤ 31) : (exL (Lr s p)).Perm (pairsOf (s :: p)) := by
  have c := cn_row j hl
  refine List.perm_iff_count.mpr fun e => ?_
  have h1 := count_ex (Lr s p) e fun t ht => Int.le_of_lt (c.pos t ht)
  have h2 := count_ex (stepT (s :: p)) e fun t ht => (j.fine t ht).2
  unfold stepT at h2
  rw [ex_step] at h2
  rw [show sumAt (Lr s p) e = sumAt (stepT (s :: p)) e from sumAt_canon' j.fine e] at h1
  have h4 : sumAt (stepT (s :: p)) e = sumAt ((pairsOf (s :: p)).map fun p => ((p.1, p.2, 1) : Tri)) e := rfl
  omega
theorem row_way {s : Str} {p : List Str} (j : Jn (s :: p)) (hl : (s :: p).length ≤ 31) : Way s (Lr s p) p := (ex_row j hl).symm
theorem row_len {s : Str} {p : List Str} (j : Jn (s :: p)) (hl : (s :: p).length ≤ 31) : (exL (Lr s p)).length = p.length := by
  rw [(ex_row j hl).length_eq, pairs_len, List.length_cons]
  omega
end RM
namespace RM
open PySem PySem.Spec PyProof.Rows L2 CS RZ
/-! ### k76: what is drawn and asked -/
structure T76 (s : Str) (p : List Str) : Prop where
  j : Jn (s :: p)
  hl : (s :: p).length ≤ 31
  nn : ∀ y ∈ s :: p, y ≠ "none"
section
variable {e : EndsD} {n : Nat} {s : Str} {p : List Str} {t1 t2 t3 t4 t5 t6 t7 t8 t9 t10 : Option Sl}
theorem T76.r (T : T76 s p) : Rd s p (Lr s p) := by
  have := rd_of T.j (by have := T.hl; omega) T.nn (fd_start T.j)
  rwa [show canon (canon (stepT (s :: p))) = Lr s p from (cn_row T.j T.hl).id] at this
theorem T76.len (T : T76 s p) : (exL (Lr s p)).length = p.length := row_len T.j T.hl
def heL (s : Str) (p : List Str) : List Str := sureE s p (Lr s p)
theorem T76.he (T : T76 s p) : (heL s p).reverse <+: (s :: p).reverse := by
  obtain ⟨w, e, hw⟩ := way_turn T.r.pc.cn T.r.turn_pc.cn (row_way T.j T.hl)
  unfold heL sureE
  rw [List.reverse_reverse, e]
  exact List.cons_prefix_cons.mpr ⟨rfl, sure_prefix _ _ _ w T.r.turn_pc.cn rfl hw⟩
end
end RM
namespace RM
open PySem PySem.Spec PyProof.Rows L2 CS RZ
/-! ### k76: place by place -/
section
variable {e : EndsD} {n : Nat} {s x : Str} {p A B : List Str} {t1 t2 t3 t4 t5 t6 t7 t8 t9 t10 : Option Sl}
/-- the journey, cut at a place -/
structure At76 (s : Str) (p A : List Str) (x : Str) (B : List Str) : Prop where
  T : T76 s p
  e : s :: p = A ++ x :: B
  eB : B = p.drop A.length
  ex : (s :: p)[A.length]? = some x
  lt : A.length < p.length
  le : A.length ≤ (sureP p.length s (Lr s p)).length
theorem At76.j (a : At76 s p A x B) : Jn (A ++ x :: B) := by rw [← a.e]; exact a.T.j
theorem At76.hl (a : At76 s p A x B) : (A ++ x :: B).length ≤ 31 := by rw [← a.e]; exact a.T.hl
theorem At76.jB (a : At76 s p A x B) : Jn (x :: B) := ⟨fun y hy => a.j.good y (List.mem_append_right _ hy), fun q hq => a.j.ch q (by
    refine drop_pairs A.length _ q ?_
    rw [List.drop_left' rfl]
    exact hq), by have := a.hl; rw [List.length_append] at this; omega⟩
theorem At76.good (a : At76 s p A x B) : ∀ q ∈ pairsOf (x :: B), GoodP q := fun q hq => ⟨a.jB.good _ (pairs_mem hq).1, a.jB.good _ (pairs_mem hq).2⟩
end
end RM
namespace RM
open PySem PySem.Spec PyProof.Rows L2 CS RZ
/-! ### (..) * k; what is had, computed -/
instance (a b : Str) : Decidable (leS a b) := by unfold leS; exact inferInstance
/-H-/
end RM
namespace RM
open PySem PySem.Spec PyProof.Rows L2 CS RZ
/-! ### k76 by hand -/
end RM
namespace RM
open PySem PySem.Spec PyProof.Rows L2 CS RZ
/-! ### last steps out of places: which can be told ahead -/
/-! what leads to the end -/
def Lead (K : Str → Str → Prop) (z : Str) : Nat → Str → Prop
  | 0, x => x = z
  | n + 1, x => ∃ y, K x y ∧ Lead K z n y
end RM
namespace RM
open PySem PySem.Spec PyProof.Rows L2 CS RZ
/-! ### d = {}; for a, b in l: d.setdefault(b, []).append(a) -/
end RM
namespace RM
open PySem PySem.Spec PyProof.Rows L2 CS RZ
/-! ### the rule of it -/
end RM
namespace RM
open PySem PySem.Spec PyProof.Rows L2 CS RZ
/-! ### which names lead to an end -/
def LK (ps : List Ed) : Str → Str → Prop := fun a b => (a, b) ∈ ps
structure WP (z y : Str) (ps : List Ed) (ks w : List Str) : Prop where
  nd : ks.Nodup
  sub : ∀ x ∈ ks, x ≠ z ∧ ∃ m, Lead (LK ps) z m x
  src : ∀ x ∈ ks, x ∈ ps.map Prod.fst
  wk : ∀ x ∈ w, x = z ∨ x ∈ ks
  wl : w.length ≤ ks.length
  hy : y = z ∨ y ∈ ks
  cl : ∀ u, (u = z ∨ u ∈ ks) → u = y ∨ u ∈ w ∨ ∀ x, (x, u) ∈ ps → x = z ∨ x ∈ ks
theorem wp_step {z y x : Str} {ps : List Ed} {ks w : List Str} (h : WP z y ps ks w) (hx : (x, y) ∈ ps) (c : x ≠ z) (d : x ∉ ks) : WP z y ps (ks ++ [x]) (w ++ [x]) := by
  have ly : ∃ m, Lead (LK ps) z m y := by
    rcases h.hy with q | q
    · exact ⟨0, q⟩
    · exact (h.sub y q).2
  refine ⟨?_, fun u hu => ?_, fun u hu => ?_, fun u hu => ?_, ?_, ?_, fun u hu => ?_⟩
  · exact List.nodup_append.mpr ⟨h.nd, by simp, fun u hu v hv q => d (by rw [List.mem_singleton.mp hv] at q; exact q ▸ hu)⟩
  · rcases List.mem_append.mp hu with hu | hu
    · exact h.sub u hu
    · rw [List.mem_singleton.mp hu]
      obtain ⟨m, q⟩ := ly
      exact ⟨c, m + 1, y, hx, q⟩
  · rcases List.mem_append.mp hu with hu | hu
    · exact h.src u hu
    · rw [List.mem_singleton.mp hu]
      exact List.mem_map_of_mem (f := Prod.fst) hx
  · rcases List.mem_append.mp hu with hu | hu
    · exact (h.wk u hu).imp id fun q => List.mem_append_left _ q
    · exact .inr (List.mem_append_right _ hu)
  · have := h.wl
    rw [List.length_append, List.length_append]
    omega
  · exact h.hy.imp id fun q => List.mem_append_left _ q
  · by_cases q : u = x
    · exact .inr (.inl (by simp [q]))
    · have : u = z ∨ u ∈ ks := hu.imp id fun w => by
        rcases List.mem_append.mp w with w | w
        · exact w
        · exact (q (List.mem_singleton.mp w)).elim
      rcases h.cl u this with r | r | r
      · exact .inl r
      · exact .inr (.inl (List.mem_append_left _ r))
      · exact .inr (.inr fun v hv => (r v hv).imp id fun s => List.mem_append_left _ s)
end RM
namespace RM
open PySem PySem.Spec PyProof.Rows L2 CS RZ
/-! ### a dict with a star -/
end RM
namespace RM
open PySem PySem.Spec PyProof.Rows L2 CS RZ
/-! ### led_to, last_outs -/
end RM
namespace RM
open PySem PySem.Spec PyProof.Rows L2 CS RZ
/-! ### sure_lasts, sure_first_ins -/
end RM
namespace RM
open PySem PySem.Spec PyProof.Rows L2 CS RZ
/-! ### last_outs tells what can be the last step -/
end RM
namespace RM
open PySem PySem.Spec PyProof.Rows L2 CS RZ
/-! ### a comprehension over an own dict -/
/-- a dict is locked or unlocked, all else stays -/
def Fz (H H' : Hp) : Prop := ∀ a o, H a = some o → H' a = some o ∨ (∃ o1 kvs, o = .frz o1 (.dK kvs) ∧ H' a = some (.dK kvs)) ∨ ∃ o1 kvs, o = .dK kvs ∧ H' a = some (.frz o1 (.dK kvs))
section
variable {T : Tab} {H H' : Hp}
theorem fz_dk (f : Fz H H') {a : Addr} {kvs : List (L2.Key × V)} (h : L2.Rd H a (.dK kvs)) : L2.Rd H' a (.dK kvs) := by
  rcases h with h | ⟨o, h⟩
  · rcases f _ _ h with g | ⟨o1, k1, e, g⟩ | ⟨o1, k1, e, g⟩
    · exact .inl g
    · cases e
    · cases e
      exact .inr ⟨_, g⟩
  · rcases f _ _ h with g | ⟨o1, k1, e, g⟩ | ⟨o1, k1, e, g⟩
    · exact .inr ⟨_, g⟩
    · cases e
      exact .inl g
    · cases e
theorem fz_at (f : Fz H H') {a : Addr} {u : HO} (h : H a = some u) (n1 : ∀ o1 kvs, u ≠ .frz o1 (.dK kvs)) (n2 : ∀ kvs, u ≠ .dK kvs) : H' a = some u := by
  rcases f _ _ h with g | ⟨o1, k1, e, g⟩ | ⟨o1, k1, e, g⟩
  · exact g
  · exact (n1 _ _ e).elim
  · exact (n2 _ e).elim
theorem fz_rd (f : Fz H H') {a : Addr} {u : HO} (h : L2.Rd H a u) (n1 : ∀ o1 kvs, u ≠ .frz o1 (.dK kvs)) (n2 : ∀ kvs, u ≠ .dK kvs) : L2.Rd H' a u := by
  rcases h with h | ⟨o, h⟩
  · exact .inl (fz_at f h n1 n2)
  · exact .inr ⟨o, fz_at f h (fun o1 kvs e => by cases e; exact n2 _ rfl) fun kvs e => by cases e⟩
theorem fz_tup (f : Fz H H') {K : PySem.W.Frag} {a : Addr} {xs : List V} (h : SqT K H a xs) : SqT K H' a xs := by
  rcases h with h | h
  · exact .inl (fz_rd f h (fun _ _ e => by cases e) fun _ e => by cases e)
  · exact .inr h
mutual
theorem Is.fz (s : Fz H H') : ∀ {v : V} {d : D}, Is T H v d → Is T H' v d
  | _, _, .non => .non
  | _, _, .bl b => .bl b
  | _, _, .int i => .int i
  | _, _, .str x => .str x
  | _, _, .lst h r => .lst (fz_at s h (fun _ _ e => by cases e) fun _ e => by cases e) (IsL.fz s r)
  | _, _, .tup h r => .tup (fz_tup s h) (IsL.fz s r)
  | _, _, .box h => .box h
  | _, _, .dk h r => .dk (fz_dk s h) (IsK.fz s r)
  | _, _, .dt h r => .dt (fz_rd s h (fun _ _ e => by cases e) fun _ e => by cases e) (IsT.fz s r)
  | _, _, .obj h1 h2 r => .obj (fz_at s h1 (fun _ _ e => by cases e) fun _ e => by cases e) (fz_at s h2 (fun _ _ e => by cases e) fun _ e => by cases e) (IsF.fz s r)
  | _, _, .exc h1 h2 r => .exc (fz_at s h1 (fun _ _ e => by cases e) fun _ e => by cases e) (fz_at s h2 (fun _ _ e => by cases e) fun _ e => by cases e) (IsF.fz s r)
  | _, _, .exn h => .exn (fz_at s h (fun _ _ e => by cases e) fun _ e => by cases e)
theorem IsL.fz (s : Fz H H') : ∀ {v : List V} {d : List D}, IsL T H v d → IsL T H' v d
  | _, _, .nil => .nil
  | _, _, .cons h r => .cons (Is.fz s h) (IsL.fz s r)
theorem IsK.fz (s : Fz H H') : ∀ {v : List (L2.Key × V)} {d : List (D × D)}, IsK T H v d → IsK T H' v d
  | _, _, .nil => .nil
  | _, _, .cons h r => .cons (Is.fz s h) (IsK.fz s r)
theorem IsT.fz (s : Fz H H') : ∀ {v : List (List L2.Key × V)} {d : List (D × D)}, IsT T H v d → IsT T H' v d
  | _, _, .nil => .nil
  | _, _, .cons h r => .cons (Is.fz s h) (IsT.fz s r)
theorem IsF.fz (s : Fz H H') : ∀ {v : List (Str × V)} {d : List (D × D)}, IsF T H v d → IsF T H' v d
  | _, _, .nil => .nil
  | _, _, .cons h r => .cons (Is.fz s h) (IsF.fz s r)
end
theorem OwnAt.fz {Hh Hh' : Hp} {p : Addr} {d : D} (s : Fz Hh Hh') (h : OwnAt T Hh H p d) (e : H' p = H p) : OwnAt T Hh' H' p d := by
  cases h with
  | lst h r => exact .lst (e.trans h) (r.fz s)
  | dk h r => exact .dk (e.trans h) (r.fz s)
  | dt h r => exact .dt (e.trans h) (r.fz s)
  | obj h g r => exact .obj (e.trans h) (fz_at s g (fun _ _ e => by cases e) fun _ e => by cases e) (r.fz s)
end
/-- one dict's lock -/
inductive Sw : HO → HO → Prop
  | on (o : Obj) (kvs : List (L2.Key × V)) : Sw (.dK kvs) (.frz o (.dK kvs))
  | off (o : Obj) (kvs : List (L2.Key × V)) : Sw (.frz o (.dK kvs)) (.dK kvs)
section
variable {C : Ctx} {ρ : En} {n : Nat} {σ : L2.St} {H : Hp} {O : Ow} {p : Addr} {u u' : HO}
theorem fz_upd (sw : Sw u u') (hp : H p = some u) : Fz H (upd H p u') := fun a o h => by
  by_cases c : a = p
  · subst c
    rw [hp] at h
    cases h
    rw [upd_same]
    cases sw with
    | on o kvs => exact .inr (.inr ⟨_, _, rfl, rfl⟩)
    | off o kvs => exact .inr (.inl ⟨_, _, rfl, rfl⟩)
  · rw [upd_ne c]
    exact .inl h
theorem hid_upd (hz : ¬ C.Z p) (ho : ∀ i, O i ≠ some p) : hid C O (upd H p u') = upd (hid C O H) p u' := by
  funext a
  by_cases c : a = p
  · subst c
    rw [upd_same]
    exact hid_of upd_same hz ho
  · rw [upd_ne c]
    unfold hid
    rw [upd_ne c]
theorem Ev.swap (E : Ev C ρ n σ H O) (sw : Sw u u') (hp : hid C O H p = some u) (h0 : C.H0 p = Option.none) (hb : C.B p = Option.none) (hx : C.T.bx ≠ some p) : Ev C ρ n σ (upd H p u') O := by
  obtain ⟨g1, g2, g3⟩ := hid_some hp
  have eh := hid_upd (H := H) (u' := u') g2 g3
  have f : Fz (hid C O H) (hid C O (upd H p u')) := by rw [eh]; exact fz_upd sw hp
  refine ⟨E.len, fun i d e => ?_, fun i d e => ?_, E.only, E.inj, E.zs, E.zt, fun a o h z => ?_, fun b h => ⟨(E.box b h).1, ?_⟩, E.slf, fun a o h => ?_⟩
  · obtain ⟨v, h1, h2⟩ := E.val i d e
    exact ⟨v, h1, h2.fz f⟩
  · obtain ⟨q, h1, h2, h3⟩ := E.own i d e
    refine ⟨q, h1, h2, h3.fz f (upd_ne fun z => g3 i (z ▸ h1))⟩
  · rw [upd_ne fun w => by rw [w, h0] at h; cases h]
    exact E.keep a o h z
  · obtain ⟨A, B, D', e, r⟩ := (E.box b h).2
    exact ⟨A, B, D', by rw [upd_ne (fun z : b = p => hx (z ▸ h))]; exact e, r⟩
  · rw [eh, upd_ne fun w => by rw [w, hb] at h; cases h]
    exact E.vis a o h
end
end RM
namespace RM
open PySem PySem.Spec PyProof.Rows L2 CS RZ
/-! ### for a, b in zip(x, y) -/
theorem walk_zipT {K : PySem.W.Frag} {a b : Addr} {xs ys : List V} {n : Nat} (hn : n = min xs.length ys.length) : Walk (ItzT K a b) n (fun H => SqT K H a xs ∧ SqT K H b ys) (YPair (fun i => xs[i]?) fun i => ys[i]?) where
  goes i H hi h := ⟨xs, ys, xs[i]'(by omega), ys[i]'(by omega), h.1, h.2, List.getElem?_eq_getElem _, List.getElem?_eq_getElem _⟩
  stops H h := ⟨xs, ys, h.1, h.2, by omega⟩
  yields i H v H' hi h y := by
    obtain ⟨T, x, z, e1, e2, e3, e4, e5⟩ := y
    exact ⟨T, x, z, e1, e2, e3, e4 xs h.1, e5 ys h.2⟩
/-! ### a, b = two new things -/
end RM
namespace RM
open PySem PySem.Spec PyProof.Rows L2 CS RZ
/-! ### last steps out, first steps in, told of a trail -/
end RM
namespace RM
open PySem PySem.Spec PyProof.Rows L2 CS RZ
/-! ### what is due: the last steps that all trails have -/
end RM
namespace RM
open PySem PySem.Spec PyProof.Rows L2 CS RZ
end RM
namespace RM
open PySem PySem.Spec PyProof.Rows L2 CS RZ
/-! ### k39: what is drawn and asked -/
section
variable {e : EndsD} {n : Nat} {s : Str} {p : List Str} {t1 t2 t3 t4 t5 t6 : Option Sl}
theorem T76.fin (T : T76 s p) : endS s (Lr s p) = endOf s p := T.r.fin
end
end RM
set_option maxHeartbeats 4000000
namespace RM
open PySem PySem.Spec PyProof.Rows L2 CS RZ
/-! ### k39: the answers that are told by hand, computed -/
def two : List Tri := [("a", "b", 2), ("b", "a", 2)]
end RM
set_option maxHeartbeats 4000000
namespace RM
open PySem PySem.Spec PyProof.Rows L2 CS RZ
/-! ### k39, by hand -/
def A1 : List Ed := [("b", "d")]
def A2 : List Ed := [("b", "d"), ("c", "a")]
def sdByHand39 : SpD := fun ds n k _ => ds = [] ∧ k (.bool true) n
end RM
namespace RM
open PySem PySem.Spec PyProof.Rows L2 CS RZ
end RM
namespace RM
open PySem PySem.Spec PyProof.Rows L2 CS RZ
/-! ### first steps out of a place (k34) -/
end RM
namespace RM
open PySem PySem.Spec PyProof.Rows L2 CS RZ
end RM
namespace RM
open PySem PySem.Spec PyProof.Rows L2 CS RZ
/-! ### first_outs, first_ins, last_ins -/
theorem neD_rowT {a b : List Str} (ha : ∀ y ∈ a, GoodS y) (hb : ∀ y ∈ b, GoodS y) : neD (.tuple (strD a)) (.tuple (strD b)) = some (.bool (!decide (a = b))) := by
  unfold neD
  rw [(OkN.strs ha).ok (by decide), (OkN.strs hb).ok (by decide), if_pos (show (true && true) = true from rfl)]
  have := rowT_eqv a b
  unfold rowT at this
  rw [this]
end RM
set_option maxHeartbeats 4000000
namespace RM
open PySem PySem.Spec PyProof.Rows L2 CS RZ
/-! ### firstsL computed; what all trails have: first and last steps at one place (k34) -/
end RM
namespace RM
open PySem PySem.Spec PyProof.Rows L2 CS RZ
/-! ### last steps out of several places together (k37, k38, k40) -/
end RM
namespace RM
open PySem PySem.Spec PyProof.Rows L2 CS RZ
/-! ### kept, can_be_last (k37, k38, k40) -/
end RM
namespace RM
open PySem PySem.Spec PyProof.Rows L2 CS RZ
/-! ### can_be_last (k37) -/
theorem eqD_rowT {a b : List Str} (ha : ∀ y ∈ a, GoodS y) (hb : ∀ y ∈ b, GoodS y) : eqD (.tuple (strD a)) (.tuple (strD b)) = some (.bool (decide (a = b))) := by
  unfold eqD
  rw [(OkN.strs ha).ok (by decide), (OkN.strs hb).ok (by decide), if_pos (show (true && true) = true from rfl)]
  have := rowT_eqv a b
  unfold rowT at this
  rw [this]
end RM
namespace RM
open PySem PySem.Spec PyProof.Rows L2 CS RZ
/-! ### k37's law side: the last exits of a trail -/
end RM
namespace RM
open PySem PySem.Spec PyProof.Rows L2 CS RZ
/-! ### v = [[], [], [], []], of which the lists grow in a loop: nobody else knows them -/
def outs (H : Hp) (S : List Addr) : Hp := fun b => if b ∈ S then none else H b
section
variable {C : Ctx} {ρ : En} {n : Nat} {σ : L2.St} {H H' Hx : Hp} {O : Ow} {a : Addr} {o : HO} {S : List Addr}
theorem outs_mono (s : Same H H') : Same (outs H S) (outs H' S) := fun b o h => by
  unfold outs at h ⊢
  split at h
  · cases h
  · rename_i c
    rw [if_neg c]
    exact s _ _ h
end
/-- slot iG holds the list at p of the lists at qs, which hold gs; nobody else knows them -/
structure Gh (C : Ctx) (iG : Nat) (p : Addr) (qs : List Addr) (gs : List (List D)) (ρ : En) (n : Nat) (σ : L2.St) (H : Hp) (O : Ow) : Prop where
  ev : Ev C ρ n σ (outs H (p :: qs)) O
  slot : σ[iG]? = some (some (.ref p))
  nd : (p :: qs).Nodup
  top : H p = some (.lst (qs.map V.ref))
  rows : ∀ (j : Nat) (q : Addr), qs[j]? = some q → ∃ us g, H q = some (.lst us) ∧ gs[j]? = some g ∧ IsL C.T (hid C O (outs H (p :: qs))) us g
  len : gs.length = qs.length
section
variable {X : Cx} {g : Glob} {xk : WX} {pos : Pos} {iG : Nat}
theorem Gh.ext {C : Ctx} {ρ : En} {n : Nat} {σ : L2.St} {H H' : Hp} {O : Ow} {p : Addr} {qs : List Addr} {gs : List (List D)} (G : Gh C iG p qs gs ρ n σ H O) (s : Same H H') : Gh C iG p qs gs ρ n σ H' O :=
  ⟨G.ev.ext (outs_mono s), G.slot, G.nd, s _ _ G.top, fun j q hj => let ⟨us, l, h1, h2, h3⟩ := G.rows j q hj; ⟨us, l, s _ _ h1, h2, h3.same (hid_same (outs_mono s))⟩, G.len⟩
end
end RM
namespace RM
open PySem PySem.Spec PyProof.Rows L2 CS RZ
/-! ### [f1, f2, f3, f4][e](..): a def out of a list of defs -/
end RM
namespace RM
open PySem PySem.Spec PyProof.Rows L2 CS RZ
/-! ### last_outs and the others, of a place that is none too (k34) -/
/-- counts that are had, and so are the turned ones -/
structure Q34 (s : Str) (L : List Tri) : Prop where
  pc : Pc s L
  had : hadL s L = true
  pct : Pc (endS s L) (turnL L)
  hadt : hadL (endS s L) (turnL L) = true
  he : endS (endS s L) (turnL L) = s
theorem ends_ex {L : List Tri} (c : Cn L) (a : Str) : ends L a ↔ ∃ e ∈ exL L, e.1 = a ∨ e.2 = a := by
  constructor
  · rintro ⟨t, ht, h⟩
    exact ⟨pr t, (mem_ex c.pos _).mpr (List.mem_map_of_mem ht), h⟩
  · rintro ⟨e, he, h⟩
    obtain ⟨t, ht, rfl⟩ := List.mem_map.mp ((mem_ex c.pos _).mp he)
    exact ⟨t, ht, h⟩
theorem Q34.pl {s : Str} {L : List Tri} (q : Q34 s L) (a : Str) : inPl (endS s L) (turnL L) a = inPl s L a := by
  have h1 : ends (turnL L) a ↔ ends L a := by
    rw [ends_ex q.pct.cn, ends_ex q.pc.cn]
    constructor
    · rintro ⟨e, he, h⟩
      obtain ⟨d, hd, rfl⟩ := List.mem_map.mp ((ex_turn q.pc.cn q.pct.cn).mem_iff.mp he)
      exact ⟨d, hd, h.symm⟩
    · rintro ⟨e, he, h⟩
      exact ⟨swE e, (ex_turn q.pc.cn q.pct.cn).mem_iff.mpr (List.mem_map_of_mem he), h.symm⟩
  rw [Bool.eq_iff_iff, inPl_iff, inPl_iff]
  constructor
  · rintro (rfl | h)
    · exact (places_mem _).mp end_in
    · exact .inr (h1.mp h)
  · rintro (rfl | h)
    · have := (places_mem _).mp (end_in (s := endS a L) (L := turnL L))
      rw [q.he] at this
      exact this
    · exact .inr (h1.mpr h)
/-! what the law is told -/
end RM
namespace RM
open PySem PySem.Spec PyProof.Rows L2 CS RZ
/-! ### _law_ends_due (k34) -/
/-- ys is what sorted(set(xs)) tells -/
structure SS (ys xs : List Str) : Prop where
  nd : ys.Nodup
  mem : ∀ p, p ∈ ys ↔ p ∈ xs
  pw : sortedS ys = true
theorem lc_yes {cg : CG} {te : CE} {vs : List Nat} {d : D} {ds : List D} {ρ ρ1 : En} {n : Nat} {acc : List D} {k : List D → En → Nat → Prop} (h1 : cg d ρ = some ρ1) (h2 : te ρ1 n (fun y ρ3 n3 => acc.length < lim ∧ cLcL cg cYes te vs ds (wipeE ρ3 vs) n3 (acc ++ [y]) k) kF) : cLcL cg cYes te vs (d :: ds) ρ n acc k := ⟨ρ1, h1, h2⟩
end RM
namespace RM
open PySem PySem.Spec PyProof.Rows L2 CS RZ
/-! ### k34's turn -/
section
variable {s a b : Str} {L : List Tri}
theorem SS.one {ys xs zs : List Str} (h : SS ys xs) (pw : zs.Pairwise leS) (nd : zs.Nodup) (hm : ∀ p, p ∈ zs ↔ p ∈ xs) : zs = ys :=
  sorted_one pw (sorted_pw h.pw) nd h.nd fun p => (hm p).trans (h.mem p).symm
end
end RM
set_option maxHeartbeats 4000000
namespace RM
open PySem PySem.Spec PyProof.Rows L2 CS RZ
/-! ### xs + ys as a new list -/
/-! ### for x in a text -/
/-! ### k34, by hand -/
end RM
namespace RM
open PySem PySem.Spec PyProof.Rows L2 CS RZ
/-! ### {x: y} of two names -/
end RM
set_option maxHeartbeats 4000000
namespace CS
open PySem PySem.Spec PyProof.Rows L2
end CS
set_option maxHeartbeats 4000000
namespace CS
open PySem PySem.Spec PyProof.Rows L2
open RZ
end CS
namespace RM
open PySem PySem.Spec PyProof.Rows L2 CS RZ
/-! ### for p in zip(x, y), two tuples, p a name -/
end RM
namespace CS
open PySem PySem.Spec PyProof.Rows L2
/-! ### except (A, B, C) as n -/
end CS
namespace RM
/-! ### determinants, by the first row -/
section
variable {R C : Type} (e : R → C → Int)
def E1 (r : R) : List C → (List C → Int) → Int
  | [], _ => 0
  | c :: cs, F => e r c * F cs - E1 r cs (fun l => F (c :: l))
variable {e}
/-! rows -/
/-! columns -/
/-! other names for rows and columns -/
/-- a factor of each row -/
def prodI : List Int → Int
  | [] => 1
  | a :: l => a * prodI l
end
end RM
namespace RM
open PySem PySem.Spec PyProof.Rows L2 CS RZ
/-! ### how many journeys: a determinant (the steps of one kind told apart) -/
def fac : Nat → Int
  | 0 => 1
  | n + 1 => ((n + 1 : Nat) : Int) * fac n
end RM
namespace RM
open PySem PySem.Spec PyProof.Rows L2 CS RZ
/-! ### how many journeys: the theorem -/
end RM
namespace RM
open PySem PySem.Spec PyProof.Rows L2 CS RZ
/-! ### how many journeys: the steps of one kind alike -/
def FL (L : List Tri) : Int := prodI (L.map fun t => fac t.2.2.toNat)
theorem FL_cons (t : Tri) (L : List Tri) : FL (t :: L) = fac t.2.2.toNat * FL L := rfl
theorem FL_filter : ∀ L : List Tri, FL (L.filter fun t => decide (0 < t.2.2)) = FL L
  | [] => rfl
  | t :: L => by
    by_cases c : 0 < t.2.2
    · rw [List.filter_cons_of_pos (by simpa using c), FL_cons, FL_cons, FL_filter L]
    · rw [List.filter_cons_of_neg (by simpa using c), FL_cons, FL_filter L]
      have : t.2.2.toNat = 0 := by omega
      rw [this]
      show _ = 1 * _
      omega
end RM
namespace RM
open PySem PySem.Spec PyProof.Rows L2 CS RZ
/-! ### determinants, row by row without remainders (Bareiss) -/
end RM
namespace RM
open PySem PySem.Spec PyProof.Rows L2 CS RZ
/-! ### great numbers: *, //, & 1; enumerate; comb, perm, gcd -/
/-! enumerate -/
end RM
namespace RM
open PySem PySem.Spec PyProof.Rows L2 CS RZ
/-! ### choices and arrangements -/
end RM
namespace RM
open PySem PySem.Spec PyProof.Rows L2 CS RZ
/-! ### arrangements -/
theorem log2_lt {a b : Nat} (h : a < 2 ^ b) (hb : 0 < b) : a.log2 < b := PySem.Flt.log2_lt_of hb h
end RM
namespace RM
open PySem PySem.Spec PyProof.Rows L2 CS RZ
/-! ### determinant -/
end RM
namespace RM
open PySem PySem.Spec PyProof.Rows L2 CS RZ
/-! ### exit_numbers, orders, last_ways -/
end RM
namespace RM
open PySem PySem.Spec PyProof.Rows L2 CS RZ
/-! ### tree_sum -/
end RM
namespace RM
open PySem PySem.Spec PyProof.Rows L2 CS RZ
/-! ### how_many is how many there are -/
end RM
namespace RM
open PySem PySem.Spec PyProof.Rows L2 CS RZ
/-! ### how_many -/
end RM
set_option maxHeartbeats 4000000
namespace RM
open PySem PySem.Spec PyProof.Rows L2 CS RZ
/-! ### a op b op c as a test -/
/-! ### for a, b in zip(text, list) -/
end RM
namespace RM
open PySem PySem.Spec PyProof.Rows L2 CS RZ
/-! ### isinstance of one built-in type, a op b op c as a value, a constant of the module, a sign in a text, text.split(text) -/
def cIsK1 (o : Opd) (a : String) : CE := fun ρ n k ke => cOpd o ρ n (fun get ρ1 n1 => ∃ d t, get ρ1 = some d ∧ kindD d = some t ∧ k (.bool (decide (t = a))) ρ1 n1) ke
def kit1B (a : String) : Bool := kinds.all fun t => kitB t a == some (decide (t = a))
section
variable {X : Cx} {g : Glob} {xk : WX} {pos p : Pos}
theorem pd_isK1 {e : Expr} {o : Opd} {x : Str} {a : String} {px : Pos} (G : Good X g) (hk : kit1B a = true) (h : PDQ X g xk e o) (gx : Gl X x) (mx : X.mg x = none) (vx : bootBuiltins x = some (.type a)) (hg : Gl X "isinstance") (hm : X.mg "isinstance" = none)
    (nx : x ≠ "__name__" := by decide) (dx : (x == ("__debug__" : Str)) = false := by decide)
    (hs : starEach [e, .Name x px] X.env = (false, eval e X.env) :: starEach [.Name x px] X.env := by rfl) (hs2 : starEach [.Name x px] X.env = (false, eval (.Name x px) X.env) :: starEach [] X.env := by rfl)
    (hpl : (backTo pos (starEach [.Name x px] X.env)).any (·.1) = false := by rfl) : PD X g xk (.Call (.Name "isinstance" p) [e, .Name x px] [] pos) (cIsK1 o a) := by
  refine ⟨PE.imp (pe_callB call_isi hg hm (by decide +kernel) (pa_cons h.pe (pa_cons (pe_bltn (v := .ty a) gx mx vx rfl nx dx) pa_nil hs2) hs) (by decide) (by decide) hs hpl) fun σ H Q r => ?_⟩
  obtain ⟨C, ρ, n, O, k, ke, hK, E, t, x, q⟩ := r
  refine ⟨C, ρ, n, O, _, ke, hK, E, t, x, fun get ρ1 n1 v H1 O1 k1 E1 S1 p1 => ?_⟩
  obtain ⟨d, t, h1, h2, k1⟩ := k1
  have iv := kind_ty ((p1 _ _ _ _ _ E1 (Same.refl _) h1).is hid_le) h2
  have hkt : PySem.W.kitOne X.K (.type t) (.type a) = some (decide (t = a)) := by
    unfold kit1B at hk
    simp only [List.all_eq_true, beq_iff_eq] at hk
    exact kit_ty (hk t (kind_mem h2))
  exact ⟨v, .ty a, .type t, .type a, _, rfl, .ty a, (hK.1.trans G.K) ▸ iv, hkt, q _ _ _ _ _ _ k1 E1 S1 (.bl _)⟩
end
end RM
namespace RM
open PySem PySem.Spec PyProof.Rows L2 CS RZ
/-! ### what text.split(" > ") tells -/
abbrev sepT : Str := " > "
theorem sep_len : sepT.length = 3 := by decide +kernel
end RM
namespace RM
open PySem PySem.Spec PyProof.Rows L2 CS RZ
/-! ### is_place, is_journey, journey_of of any text (k43) -/
abbrev letT : Str := "abcdefghijklmnopqrstuvwxyz"
def plcL (l : List Nat) : Bool := decide (1 ≤ l.length) && (decide (l.length ≤ 8) && l.all fun c => decide (c ∈ letT.cps.toList))
def placeB (z : Str) : Bool := plcL z.cps.toList
theorem len_list (z : Str) : z.length = z.cps.toList.length := by rw [Array.length_toList]; rfl
theorem place_in {l : List Nat} (h : plcL l = true) : 1 ≤ l.length ∧ l.length ≤ 8 ∧ ∀ c ∈ l, c ∈ letT.cps.toList := by
  unfold plcL at h
  simp only [Bool.and_eq_true, decide_eq_true_eq, List.all_eq_true] at h
  exact ⟨h.1, h.2.1, h.2.2⟩
/-! what is glued comes apart -/
abbrev cpl (z : Str) : List Nat := z.cps.toList
theorem cpl_app (a b : Str) : cpl (a ++ b) = cpl a ++ cpl b := by
  show (a.cps ++ b.cps).toList = _
  simp
end RM
namespace RM
open PySem PySem.Spec PyProof.Rows L2 CS RZ
/-! ### is_place, is_journey, journey_text, journey_of, what is heard (k43) -/
theorem neD_strS {a b : Str} (ha : GoodS a) (hb : GoodS b) : neD (.str a) (.str b) = some (.bool (decide (a ≠ b))) := by
  have h := eqD_str ha hb
  unfold eqD at h
  unfold neD
  split at h
  · rename_i c
    rw [if_pos c]
    have h : PyData.eqv (.str a) (.str b) = decide (a = b) := by
      have := Option.some.inj h
      exact PyData.bool.inj this
    rw [h]
    simp
  · cases h
end RM
namespace RM
open PySem PySem.Spec PyProof.Rows L2 CS RZ
/-! ### spoilt texts (k43) -/
theorem good_iff {z : Str} : GoodS z ↔ ∀ c ∈ cpl z, c < 0x110000 := by
  show z.cps.all (· < 0x110000) = true ↔ _
  rw [Array.all_eq_true_iff_forall_mem]
  constructor
  · intro h c hc
    have := h c (by simpa [cpl] using hc)
    simpa using this
  · intro h c hc
    have := h c (by simpa [cpl] using hc)
    simpa using this
theorem good_app {a b : Str} (ha : GoodS a) (hb : GoodS b) : GoodS (a ++ b) := good_iff.mpr fun c hc => by
  rw [cpl_app] at hc
  rcases List.mem_append.mp hc with h | h
  · exact good_iff.mp ha c h
  · exact good_iff.mp hb c h
theorem good_sep : GoodS sepT := (by decide +kernel : (PyData.str sepT).canLay0 = true)
theorem good_join : ∀ ys : List Str, (∀ y ∈ ys, GoodS y) → GoodS (Str.join sepT ys)
  | [], _ => (by decide +kernel : (PyData.str Str.empty).canLay0 = true)
  | [x], h => h x (List.mem_singleton.mpr rfl)
  | x :: y :: r, h => good_app (good_app (h x (List.mem_cons_self ..)) good_sep) (good_join (y :: r) fun z hz => h z (List.mem_cons_of_mem _ hz))
theorem len_join : ∀ ys : List Str, (∀ y ∈ ys, y.length ≤ 8) → (Str.join sepT ys).length ≤ ys.length * 11
  | [], _ => Nat.le_refl _
  | [x], h => by
    have := h x (List.mem_singleton.mpr rfl)
    show x.length ≤ _
    rw [List.length_singleton]
    omega
  | x :: y :: r, h => by
    have ih := len_join (y :: r) fun z hz => h z (List.mem_cons_of_mem _ hz)
    have := h x (List.mem_cons_self ..)
    show (x ++ sepT ++ Str.join sepT (y :: r)).length ≤ _
    rw [Str.length_append, Str.length_append, sep_len, List.length_cons]
    omega
theorem place_len {z : Str} (h : placeB z = true) : z.length ≤ 8 := by
  rw [len_list]
  exact (place_in h).2.1
end RM
set_option maxHeartbeats 4000000
namespace RM
open PySem PySem.Spec PyProof.Rows L2 CS RZ
/-! ### k17: _law_chosen, _law_all_steps -/
end RM
set_option maxHeartbeats 4000000
namespace RM
open PySem PySem.Spec PyProof.Rows L2 CS RZ
/-! ### how many journeys rows of any order have -/
theorem canon_filt {R : List Tri} (h : (R.map pr).Nodup) : (canon R).Perm (R.filter fun t => decide (0 < t.2.2)) := by
  have n1 : (canon R).Nodup := List.Pairwise.of_map pr (fun a b c e => c (by rw [e])) (canon_nodup R)
  have n2 : R.Nodup := List.Pairwise.of_map pr (fun a b c e => c (by rw [e])) h
  refine (List.perm_ext_iff_of_nodup n1 (n2.sublist List.filter_sublist)).mpr fun t => ?_
  rw [List.mem_filter, decide_eq_true_iff]
  constructor
  · intro ht
    obtain ⟨h1, h2, h3⟩ := canon_mem ht
    obtain ⟨u, hu, e⟩ := List.mem_map.mp h1
    have e2 : t.2.2 = u.2.2 := by
      rw [h3, ← e, ← numAt_sum h, numAt_mem h hu]
    have : t = u := Prod.ext (congrArg Prod.fst e).symm (Prod.ext (congrArg Prod.snd e).symm e2)
    rw [this]
    exact ⟨hu, by rw [← e2]; exact h2⟩
  · rintro ⟨ht, h0⟩
    unfold canon
    have e1 : sumAt R (pr t) = t.2.2 := by rw [← numAt_sum h, numAt_mem h ht]
    refine List.mem_map.mpr ⟨pr t, List.mem_filter.mpr ⟨?_, ?_⟩, ?_⟩
    · rw [(List.mergeSort_perm _ _).mem_iff, mem_firsts]
      exact List.mem_map_of_mem ht
    · rw [e1]
      exact decide_eq_true h0
    · rw [e1]
      rfl
theorem ex_perm {A B : List Tri} (h : A.Perm B) : (exL A).Perm (exL B) := by
  unfold exL
  exact h.flatMap_right _
theorem FL_perm {A B : List Tri} (h : A.Perm B) : FL A = FL B := by
  unfold FL
  have h2 := h.map fun t : Tri => fac t.2.2.toNat
  revert h2
  generalize (A.map fun t : Tri => fac t.2.2.toNat) = a
  generalize (B.map fun t : Tri => fac t.2.2.toNat) = b
  intro h2
  induction h2 with
  | nil => rfl
  | cons x _ ih => show x * _ = x * _; rw [ih]
  | swap x y l => show y * (x * _) = x * (y * _); rw [← Int.mul_assoc, Int.mul_comm y x, Int.mul_assoc]
  | trans _ _ a b => exact a.trans b
structure Rw (R : List Tri) : Prop where
  g : GoodL R
  fine : Fine R
  nd : (R.map pr).Nodup
  len : R.length ≤ 30
theorem Rw.ex {R : List Tri} (h : Rw R) : (exL (canon R)).Perm (exL R) := by
  have := ex_perm (canon_filt h.nd)
  rwa [ex_filter] at this
theorem Rw.fl {R : List Tri} (h : Rw R) : FL (canon R) = FL R := by
  rw [FL_perm (canon_filt h.nd), FL_filter]
theorem Rw.cn {R : List Tri} (h : Rw R) : Cn (canon R) := cn_canon h.fine h.g h.len
/-- what how_many and Counts ask of rows -/
theorem Rw.pc {R : List Tri} (h : Rw R) {s : Str} (gs : GoodS s) (hs : s ≠ "none") (hn : ∀ t ∈ R, t.1 ≠ "none" ∧ t.2.1 ≠ "none") : Pc s (canon R) := by
  refine ⟨h.cn, gs, h.cn.len, fun p hp => ?_⟩
  rcases (places_mem p).mp hp with rfl | ⟨t, ht, h2⟩
  · exact hs
  · have hm := (canon_filt h.nd).mem_iff.mp ht
    have hm := (List.mem_filter.mp hm).1
    rcases h2 with rfl | rfl
    · exact (hn t hm).1
    · exact (hn t hm).2
end RM
set_option maxHeartbeats 4000000
namespace RM
open PySem PySem.Spec PyProof.Rows L2 CS RZ
/-! ### k17: round trips from one place; three places in a row -/
end RM
set_option maxHeartbeats 4000000
namespace RM
open PySem PySem.Spec PyProof.Rows L2 CS RZ
/-! ### k17: _law_great_right -/
end RM
set_option maxHeartbeats 4000000
namespace RM
open PySem PySem.Spec PyProof.Rows L2 CS RZ
/-! ### k17, by hand -/
end RM
set_option maxHeartbeats 4000000
namespace RM
open PySem PySem.Spec PyProof.Rows L2 CS RZ
end RM
set_option maxHeartbeats 4000000
namespace RM
open PySem PySem.Spec PyProof.Rows L2 CS RZ
/-! ### k17: drawn turns -/
section
variable {e : EndsD} {n : Nat} {t1 t2 t3 t4 t5 t6 t7 t8 : Option Sl} {ss : List Str}
/-- the counts of a drawn walk, or of drawn steps -/
structure D17 (ss : List Str) (L : List Tri) : Prop where
  cn : Cn L
  sub : ∀ t ∈ L, t.1 ∈ ss ∧ t.2.1 ∈ ss
  len : (exL L).length ≤ 10
  s4 : ∀ s ∈ ss, s ∈ tagPool
  le : ss.length ≤ 4
theorem D17.pc {L : List Tri} {s : Str} (h : D17 ss L) (hs : s ∈ ss) : Pc s L := by
  have := pc_of h.cn.fine h.cn.g h.cn.len (tag_good _ (h.s4 _ hs)) (tag_none _ (h.s4 _ hs)) (fun t ht => ⟨tag_none _ (h.s4 _ (h.sub t ht).1), tag_none _ (h.s4 _ (h.sub t ht).2)⟩)
  rwa [h.cn.id] at this
theorem D17.size {L : List Tri} {s : Str} (h : D17 ss L) (hs : s ∈ ss) : (8 * (exL L).length + 2) * 2 ^ (placesL s L).length ≤ 9000 := by
  have h1 : (placesL s L).length ≤ ss.length := nodup_le places_nd fun p hp => by
    rcases (places_mem p).mp hp with rfl | ⟨t, ht, rfl | rfl⟩
    · exact hs
    · exact (h.sub t ht).1
    · exact (h.sub t ht).2
  have h2 : 2 ^ (placesL s L).length ≤ 2 ^ 4 := Nat.pow_le_pow_right (by decide) (Nat.le_trans h1 h.le)
  have h3 := h.len
  have h4 : (8 * (exL L).length + 2) * 2 ^ (placesL s L).length ≤ (8 * 10 + 2) * 2 ^ 4 := Nat.mul_le_mul (by omega) h2
  exact Nat.le_trans h4 (by decide)
theorem D17.nn {L : List Tri} {s : Str} (h : D17 ss L) (hs : s ∈ ss) : nn ([], s, L) ≤ 9864101 := nn_five (tag_good _ (h.s4 _ hs)) h.cn (by have := h.le; omega) h.sub (by have := h.len; omega)
end
end RM
namespace RM
open PySem PySem.Spec PyProof.Rows L2 CS
/-! ### values that _law_same asks, with long lists -/
end RM
namespace RM
open PySem PySem.Spec PyProof.Rows L2 CS RZ
/-! ### the list of all journeys stands in order, each once -/
/-! ### turned journeys -/
end RM
set_option maxHeartbeats 4000000
namespace RM
open PySem PySem.Spec PyProof.Rows L2 CS RZ
/-! ### k12: a drawn journey turned -/
end RM
namespace RM
open PySem PySem.Spec PyProof.Rows L2 CS RZ
/-! ### zip of two sequences, each a list or a tuple (true: a tuple) -/
end RM
namespace RM
open PySem PySem.Spec PyProof.Rows L2 CS RZ
/-! ### determinant of rows that are lists or tuples, in any mix -/
end RM
namespace RM
open PySem PySem.Spec PyProof.Rows L2 CS RZ
/-! ### k16: a determinant by its first row; orders by what can come first -/
def skip (k j : Nat) : Nat := if j < k then j else j + 1
/-! ### orders of things, by what comes first -/
end RM
set_option maxHeartbeats 4000000
namespace RM
open PySem PySem.Spec PyProof.Rows L2 CS RZ
/-! ### (..) * 0 and (..) * 1 -/
end RM
namespace RM
open PySem PySem.Spec PyProof.Rows L2 CS RZ
/-! ### k16: _law_det -/
end RM
namespace RM
open PySem PySem.Spec PyProof.Rows L2 CS RZ
end RM
namespace RM
open PySem PySem.Spec PyProof.Rows L2 CS RZ
/-! ### k16: _law_strung, factorial -/
end RM
namespace RM
open PySem PySem.Spec PyProof.Rows L2 CS RZ
/-! ### sum of a tuple of numbers -/
end RM
namespace RM
open PySem PySem.Spec PyProof.Rows L2 CS RZ
/-! ### k16: _law_strung whole, factorial, _law_mixed -/
/-! factorial -/
/-! _law_mixed -/
end RM
namespace RM
open PySem PySem.Spec PyProof.Rows L2 CS RZ
/-! ### a, b, c = x, y, [] : the last one this frame's own -/
end RM
namespace RM
open PySem PySem.Spec PyProof.Rows L2 CS RZ
/-! ### a, b, c = x, y, z -/
end RM
namespace RM
open PySem PySem.Spec PyProof.Rows L2 CS RZ
/-! ### the defs of k43: spoilt texts, the text of steps -/
section
variable {e : EndsD}
theorem cat_fit {a b : List D} (h : decide (a.length + b.length ≤ lim) = true) : addD (.list a) (.list b) = some (.list (a ++ b)) := if_pos (of_decide_eq_true h)
end
/-! the text of steps -/
end RM
namespace RM
open PySem PySem.Spec PyProof.Rows L2 CS RZ
/-! ### by hand (k43) -/
theorem okS_row (k : Nat) (ps : List Str) (h : ps.length ≤ 1000) : okS (k + 2) (rowT ps) := by
  refine ⟨by unfold strD; rw [List.length_map]; exact h, fun d hd => ?_⟩
  unfold strD at hd
  obtain ⟨p, _, rfl⟩ := List.mem_map.mp hd
  exact trivial
section
variable {e : EndsD} {n : Nat} {t0 t1 : Option Sl}
theorem gd {z : Str} (h : (PyData.str z).canLay0 = true) : GoodS z := h
end
end RM
namespace RM
open PySem PySem.Spec PyProof.Rows L2 CS RZ
/-! ### how many journeys have told last steps: the determinant of what is kept -/
def okK (la : Str → Option Str) (e : Ed) : Bool := decide (la e.1 = none ∨ la e.1 = some e.2)
def PK (la : Str → Option Str) : Nat → Str → List Ed → Int
  | 0, _, _ => 1
  | n + 1, s, E => ((E.filter fun e => decide (e.1 = s)).map fun e => if outN E s = 1 ∧ okK la e = false then 0 else PK la n e.2 (E.erase e)).sum
end RM
namespace RM
open PySem PySem.Spec PyProof.Rows L2 CS RZ
/-! ### how many journeys of all have told last steps -/
/-! one place alone -/
/-! what is kept -/
end RM
namespace RM
open PySem PySem.Spec PyProof.Rows L2 CS RZ
/-! ### how many journeys leave a place by a told step at a told time -/
end RM
namespace RM
open PySem PySem.Spec PyProof.Rows L2 CS RZ
/-! ### tree_sum of a list or a tuple -/
end RM
namespace RM
open PySem PySem.Spec PyProof.Rows L2 CS RZ
/-! ### fractions in lowest terms -/
/-! lowest -/
/-! _law_fraction -/
end RM
namespace RM
open PySem PySem.Spec PyProof.Rows L2 CS RZ
/-! ### share_of, share_last, share_first_in -/
end RM
namespace RM
open PySem PySem.Spec PyProof.Rows L2 CS RZ
/-! ### in how many of all journeys a step with a number leads to a place -/
end RM
namespace RM
open PySem PySem.Spec PyProof.Rows L2 CS RZ
/-! ### defs with keyword-only parameters that may be left out -/
end RM
namespace RM
open PySem PySem.Spec PyProof.Rows L2 CS RZ
/-! ### share_last, share_first_in -/
end RM
namespace RM
open PySem PySem.Spec PyProof.Rows L2 CS RZ
/-! ### share_out, share_in -/
end RM
namespace RM
open PySem PySem.Spec PyProof.Rows L2 CS RZ
/-! ### the law's own shares (k35) -/
end RM
namespace RM
open PySem PySem.Spec PyProof.Rows L2 CS RZ
/-! ### steps out of a place, into it; what is heard of a share (k36) -/
abbrev numL (i : Int) : D := .list [.str "number", .int i]
abbrev plL (a : Str) : D := .list [.str "place", .str a]
end RM
namespace RM
open PySem PySem.Spec PyProof.Rows L2 CS RZ
/-! ### places that are none; by hand (k35) -/
abbrev fD (x y : Int) : D := .tuple [.int x, .int y]
end RM
namespace RM
open PySem PySem.Spec PyProof.Rows L2 CS RZ
/-! ### k35's turn -/
end RM
namespace RM
open PySem PySem.Spec PyProof.Rows L2 CS RZ
/-! ### a pair of places, all numbers (k36) -/
end RM
namespace RM
open PySem PySem.Spec PyProof.Rows L2 CS RZ
/-! ### the same at all numbers but the last; by hand (k36) -/
theorem eqD_refl {k : Nat} {x : D} (h : OkN k x) (hk : k ≤ 64) : eqD x x = some (.bool true) := by
  unfold eqD
  rw [h.ok hk, if_pos (show (true && true) = true from rfl), PySem.SeqAt.eqv_refl x h.2.1]
/-! by hand -/
def B2 : List D := [fD 1 3, fD 2 3, fD 2 3, fD 1 3, fD 1 1, fD 0 1]
def B3 : List D := B2 ++ [fD 2 3, fD 2 3, fD 2 3, fD 0 1]
def B4 : List D := B3 ++ [fD 1 3]
def B5 : List D := B4 ++ [numL 0, numL 2]
def B6 : List D := B5 ++ [numL (-1), plL "x"]
def B7 : List D := B6 ++ [plL "y", plL "x"]
def C7 : List D := B4 ++ [numL 0, numL 2, numL (-1)]
end RM
namespace RM
open PySem PySem.Spec PyProof.Rows L2 CS RZ
/-! ### k36's turn -/
end RM
namespace RM
open PySem PySem.Spec PyProof.Rows L2 CS RZ
/-! ### k43's turn -/
structure T43 (s : Str) (p : List Str) : Prop where
  t : T76 s p
  pl : ∀ y ∈ s :: p, placeB y = true
  gd : ∀ y ∈ s :: p, GoodS y
  ch : ∀ e ∈ pairsOf (s :: p), e.1 ≠ e.2
  hl : (s :: p).length ≤ 13
section
variable {e : EndsD} {n : Nat} {s : Str} {p : List Str} {t1 t2 t3 t4 t5 t6 : Option Sl}
theorem T43.gl (T : T43 s p) : GoodS (Str.join sepT (s :: p)) := good_join _ T.gd
theorem T43.ll (T : T43 s p) : (Str.join sepT (s :: p)).length ≤ 200 := by
  have := len_join (s :: p) fun y hy => place_len (T.pl y hy)
  have := T.hl
  omega
end
end RM
namespace RM
open PySem PySem.Spec PyProof.Rows L2 CS RZ
/-! ### k43's turns -/
end RM
namespace RM
open PySem PySem.Spec PyProof.Rows L2 CS RZ
/-! ### a op b op c op .. as a test, of any length -/
section
variable {X : Cx} {g : Glob} {xk : WX} {pos p : Pos}
def tLinks : List (R2 × TE) → V → TT
  | [], _ => fun _ _ _ => False
  | [(r, tb)], x => fun σ H Q => tb σ H fun y H1 => r x y H1 fun z H2 => ∃ k, z = .bl k ∧ Q k H2
  | (r, tb) :: l :: ls, x => fun σ H Q => tb σ H fun y H1 => r x y H1 fun z H2 => ∃ k, z = .bl k ∧ (if k = true then tLinks (l :: ls) y σ H2 Q else Q false H2)
inductive LkT (X : Cx) : List CmpOp → List Expr → List (R2 × TE) → Prop
  | one {op : CmpOp} {r : R2} {b : Expr} {tb : TE} : OpR X (compareOp op) r → PE X b tb → LkT X [op] [b] [(r, tb)]
  | cons {op op' : CmpOp} {ops : List CmpOp} {r : R2} {b b' : Expr} {bs : List Expr} {tb : TE} {l : R2 × TE} {ls : List (R2 × TE)} : OpR X (compareOp op) r → PE X b tb → LkT X (op' :: ops) (b' :: bs) (l :: ls) → LkT X (op :: op' :: ops) (b :: b' :: bs) ((r, tb) :: l :: ls)
theorem LkT.run {ops : List CmpOp} {bs : List Expr} {ls : List (R2 × TE)} (h : LkT X ops bs ls) : ∀ (pins : List (Addr × Obj)) (s : Shared) (σ : L2.St) (H : Hp) (Q : Bool → Hp → Prop) (x : V) (v : Value), Inv X pins σ H s → RelV x v → tLinks ls x σ H Q →
    wpAny (model X.prog X.w) X.A (testChain pos v ops (evalEach bs X.env)) (TP X pins σ Q) X.xe s := by
  induction h with
  | one ho hb =>
    intro pins s σ H Q x v I rx h
    exact test_last (thn (hb.run pins s σ H _ I h) fun u s2 ⟨y, H2, I2, r2, q2⟩ => thn (ho pins s2 σ H2 x y v u _ I2 rx r2 q2) fun d s5 ⟨z2, H5, I5, r5, k2, e2, q5⟩ => by
      subst e2
      cases r5
      exact wpAny_truthy_bool ⟨H5, I5, q5⟩)
  | cons ho hb _ ih =>
    intro pins s σ H Q x v I rx h
    refine test_link (thn (hb.run pins s σ H _ I h) fun u s2 ⟨y, H2, I2, r2, q2⟩ => thn (ho pins s2 σ H2 x y v u _ I2 rx r2 q2) fun d s3 ⟨z, H3, I3, r3, k, e, q3⟩ => ?_)
    subst e
    cases r3
    refine wpAny_truthy_bool ?_
    cases k with
    | false => exact ite_ff ⟨H3, I3, q3⟩
    | true => exact ite_tt (ih pins s3 σ H3 Q y u I3 r2 q3)
def tChainN (ta : TE) (ls : List (R2 × TE)) : TT := fun σ H Q => ta σ H fun x H1 => tLinks ls x σ H1 Q
theorem pt_links {op op' : CmpOp} {ops : List CmpOp} {a b b' : Expr} {bs : List Expr} {ta : TE} {ls : List (R2 × TE)} (ha : PE X a ta) (h : LkT X (op :: op' :: ops) (b :: b' :: bs) ls)
    (hm : lastMarks (op :: op' :: ops) (b :: b' :: bs) = false := by with_unfolding_all rfl) : PT X (.Compare a (op :: op' :: ops) (b :: b' :: bs) pos) (tChainN ta ls) :=
  ⟨fun pins s σ H Q I hh => isTrue_chain (thn (ha.run pins s σ H _ I hh) fun v s1 ⟨x, H1, I1, r1, q1⟩ => h.run pins s1 σ H1 Q x v I1 r1 q1) hm⟩
def cLinks : List ((D → D → Option D) × CE) → D → CT
  | [], _ => fun _ _ _ _ => False
  | [(u, t)], x => fun ρ n k ke => t ρ n (fun y ρ1 n1 => ∃ b, u x y = some (.bool b) ∧ k b ρ1 n1) ke
  | (u, t) :: l :: ls, x => fun ρ n k ke => t ρ n (fun y ρ1 n1 => ∃ b, u x y = some (.bool b) ∧ (if b = true then cLinks (l :: ls) y ρ1 n1 k ke else k false ρ1 n1)) ke
def cChainN (ta : CE) (ls : List ((D → D → Option D) × CE)) : CT := fun ρ n k ke => ta ρ n (fun x ρ1 n1 => cLinks ls x ρ1 n1 k ke) ke
inductive LkD (X : Cx) (g : Glob) (xk : WX) : List CmpOp → List Expr → List ((D → D → Option D) × CE) → Prop
  | one {op : CmpOp} {u : D → D → Option D} {b : Expr} {tb : CE} : OpD X (compareOp op) u → PD X g xk b tb → LkD X g xk [op] [b] [(u, tb)]
  | cons {op op' : CmpOp} {ops : List CmpOp} {u : D → D → Option D} {b b' : Expr} {bs : List Expr} {tb : CE} {l : (D → D → Option D) × CE} {ls : List ((D → D → Option D) × CE)} : OpD X (compareOp op) u → PD X g xk b tb → LkD X g xk (op' :: ops) (b' :: bs) (l :: ls) → LkD X g xk (op :: op' :: ops) (b :: b' :: bs) ((u, tb) :: l :: ls)
theorem LkD.raw (G : Good X g) {ops : List CmpOp} {bs : List Expr} {ls : List ((D → D → Option D) × CE)} (h : LkD X g xk ops bs ls) : ∃ rs : List (R2 × TE), rs.length = ls.length ∧ LkT X ops bs rs ∧
    ∀ (C : Ctx) (ρ : En) (n : Nat) (O : Ow) (k : Bool → En → Nat → Prop) (ke : KE) (σ : L2.St) (H : Hp) (v : V) (d : D) (Q : Bool → Hp → Prop), C.On g → Ev C ρ n σ H O → Is C.T (hid C O H) v d → cLinks ls d ρ n k ke → XL C xk ke →
      (∀ (b : Bool) (ρ' : En) (n' : Nat) (H' : Hp) (O' : Ow), k b ρ' n' → Ev C ρ' n' σ H' O' → Same (hid C O H) (hid C O' H') → Q b H') → tLinks rs v σ H Q := by
  induction h with
  | @one op u b tb ho hb =>
    obtain ⟨r, hr, hg⟩ := ho
    refine ⟨[(r, lift g xk tb)], rfl, .one hr hb.pe, fun C ρ n O k ke σ H v d Q hK E i t x q => ?_⟩
    refine ⟨C, ρ, n, O, _, ke, hK, E, t, x, fun d2 ρ2 n2 v2 H2 O2 k2 E2 S2 i2 => ?_⟩
    obtain ⟨b, hz, k2⟩ := k2
    exact hg C.T (hid C O2 H2) H2 v v2 d d2 (.bool b) _ (hK.1.trans G.K) hid_le (i.same S2) i2 hz (newq E2 fun v3 H3 E3 S3 i3 => ⟨b, isBl i3, q _ _ _ _ _ k2 E3 (S2.trans S3)⟩)
  | @cons op op' ops u b b' bs tb l ls ho hb _ ih =>
    obtain ⟨r, hr, hg⟩ := ho
    obtain ⟨rs, hl, h1, h2⟩ := ih
    obtain ⟨r1, rs, rfl⟩ : ∃ a l', rs = a :: l' := by
      cases rs with
      | nil => cases hl
      | cons a l' => exact ⟨a, l', rfl⟩
    refine ⟨(r, lift g xk tb) :: r1 :: rs, by rw [List.length_cons, hl]; rfl, .cons hr hb.pe h1, fun C ρ n O k ke σ H v d Q hK E i t x q => ?_⟩
    refine ⟨C, ρ, n, O, _, ke, hK, E, t, x, fun d2 ρ2 n2 v2 H2 O2 k2 E2 S2 i2 => ?_⟩
    obtain ⟨b, hz, k2⟩ := k2
    refine hg C.T (hid C O2 H2) H2 v v2 d d2 (.bool b) _ (hK.1.trans G.K) hid_le (i.same S2) i2 hz (newq E2 fun v3 H3 E3 S3 i3 => ⟨b, isBl i3, ?_⟩)
    cases b with
    | false => exact q _ _ _ _ _ k2 E3 (S2.trans S3)
    | true => exact h2 C ρ2 n2 O2 k ke σ H3 v2 d2 Q hK E3 (i2.same S3) k2 x fun b ρ' n' H' O' a b' c => q _ _ _ _ _ a b' ((S2.trans S3).trans c)
theorem pdt_links {op op' : CmpOp} {ops : List CmpOp} {a b b' : Expr} {bs : List Expr} {ta : CE} {ls : List ((D → D → Option D) × CE)} (G : Good X g) (ha : PD X g xk a ta) (h : LkD X g xk (op :: op' :: ops) (b :: b' :: bs) ls)
    (hm : lastMarks (op :: op' :: ops) (b :: b' :: bs) = false := by with_unfolding_all rfl) : PDT X g xk (.Compare a (op :: op' :: ops) (b :: b' :: bs) pos) (cChainN ta ls) := by
  obtain ⟨rs, _, h1, h2⟩ := h.raw G
  refine ⟨PT.imp (pt_links ha.pe h1 hm) fun σ H Q hh => ?_⟩
  obtain ⟨C, ρ, n, O, k, ke, hK, E, t, x, q⟩ := hh
  exact ⟨C, ρ, n, O, _, ke, hK, E, t, x, fun d ρ1 n1 v H1 O1 k1 E1 S1 i1 => h2 C ρ1 n1 O1 k ke σ H1 v d Q hK E1 i1 k1 x fun b ρ' n' H' O' a b' c => q _ _ _ _ _ a b' (S1.trans c)⟩
/-! ### repr of data, where no repr is under way -/
def reprD : D → Option Str
  | .int i => if i.natAbs.log2 < 1920 then some (toString i) else none
  | .str s => if (reprText s).length ≤ sizeLine then some (reprText s) else none
  | .bool b => some (if b then "True" else "False")
  | .none => some "None"
  | .list ds => if plains ds = true ∧ (PyData.list ds).showable = true ∧ (PyData.list ds).hasDict = false ∧ (PyData.list ds).shown.length ≤ sizeLine ∧ (PyData.list ds).depth ≤ 60 then some (PyData.list ds).shown else none
  | .tuple ds => if plains ds = true ∧ (PyData.tuple ds).showable = true ∧ (PyData.tuple ds).hasDict = false ∧ (PyData.tuple ds).shown.length ≤ sizeLine ∧ (PyData.tuple ds).depth ≤ 60 then some (PyData.tuple ds).shown else none
  | _ => none
def cRepr (t : CE) : CE := fun ρ n k ke => t ρ n (fun d ρ1 n1 => ∃ z, reprD d = some z ∧ k (.str z) ρ1 n1) ke
def rReprV (K : PySem.W.Frag) : List V → Hp → VK → Prop := fun xs H Q => ∃ (v : V) (d : D) (z : Str), xs = [v] ∧ Dp K H v d ∧ reprD d = some z ∧ Q (.str z) H
theorem call_reprV (hu : X.A.units + 64 < cLine) (gd : X.A.guards = some []) : CallR X (.builtin "repr") (rReprV X.K) := by
  intro pins s σ H xs us Q I r h
  obtain ⟨v, d, z, rfl, hd, hz, q⟩ := h
  obtain ⟨u, rfl, ru⟩ := vals1 r
  cases hd with
  | non =>
    cases hz
    obtain rfl : u = Value.none := ru
    exact PySem.P.repr_of_none ⟨.str "None", H, I.tok _, ⟨_, rfl⟩, q⟩
  | bl b =>
    cases hz
    obtain rfl : u = Value.bool b := ru
    exact PySem.P.repr_of_bool ⟨.str (if b then "True" else "False"), H, I.tok _, ⟨_, rfl⟩, q⟩
  | int i =>
    obtain ⟨t, rfl⟩ := ru
    have hz : (if i.natAbs.log2 < 1920 then some ((toString i : String) : Str) else none) = some z := hz
    split at hz
    · rename_i c
      cases hz
      exact PySem.P.repr_of_int c ⟨.str (toString i), H, I.tok _, ⟨_, rfl⟩, q⟩
    · cases hz
  | str x =>
    obtain ⟨t, rfl⟩ := ru
    have hz : (if (reprText x).length ≤ sizeLine then some (reprText x) else none) = some z := hz
    split at hz
    · rename_i c
      cases hz
      exact PySem.P.repr_of_str ⟨.str (reprText x), H, I.tok _, ⟨_, rfl⟩, q⟩ c
    · cases hz
  | @lst ro xs ds h1 h2 =>
    obtain rfl := ru
    have hz : (if plains ds = true ∧ (PyData.list ds).showable = true ∧ (PyData.list ds).hasDict = false ∧ (PyData.list ds).shown.length ≤ sizeLine ∧ (PyData.list ds).depth ≤ 60 then some (PyData.list ds).shown else none) = some z := hz
    split at hz
    · rename_i c
      cases hz
      exact call_reprD hu gd pins s σ H _ _ Q I r ⟨_, _, rfl, .lst h1 h2, c.2.1, c.2.2.1, c.2.2.2.1, c.2.2.2.2, q⟩
    · cases hz
  | @tup ro xs ds h1 h2 =>
    obtain rfl := ru
    have hz : (if plains ds = true ∧ (PyData.tuple ds).showable = true ∧ (PyData.tuple ds).hasDict = false ∧ (PyData.tuple ds).shown.length ≤ sizeLine ∧ (PyData.tuple ds).depth ≤ 60 then some (PyData.tuple ds).shown else none) = some z := hz
    split at hz
    · rename_i c
      cases hz
      exact call_reprD hu gd pins s σ H _ _ Q I r ⟨_, _, rfl, .tup h1 h2, c.2.1, c.2.2.1, c.2.2.2.1, c.2.2.2.2, q⟩
    · cases hz
theorem reprD_plain {d : D} {z : Str} (h : reprD d = some z) : plain d = true := by
  unfold reprD at h
  split at h <;> first | rfl | skip
  · split at h
    · rename_i c
      exact c.1
    · cases h
  · split at h
    · rename_i c
      exact c.1
    · cases h
  · cases h
theorem pd_repr {e : Expr} {te : CE} (G : Good X g) {k0 : Nat} (hr : Room k0 X.A) (gd : X.A.guards = some []) (hg : Gl X "repr") (hm : X.mg "repr" = none) (he : PD X g xk e te)
    (hs : starEach [e] X.env = (false, eval e X.env) :: starEach [] X.env := by rfl) (hpl : (backTo pos (starEach [] X.env)).any (·.1) = false := by rfl) : PD X g xk (.Call (.Name "repr" p) [e] [] pos) (cRepr te) := by
  refine ⟨PE.imp (pe_callB (call_reprV hr.units gd) hg hm (by decide +kernel) (pa_cons he.pe pa_nil hs) (by decide) (by decide) hs hpl) fun σ H Q r => ?_⟩
  obtain ⟨C, ρ, n, O, k, ke, hK, E, t, x, q⟩ := r
  refine ⟨C, ρ, n, O, _, ke, hK, E, t, x, fun d ρ1 n1 v H1 O1 k1 E1 S1 i1 => ?_⟩
  obtain ⟨z, hz, k1⟩ := k1
  exact ⟨v, d, z, rfl, (hK.1.trans G.K) ▸ (i1.same hid_le).dp (reprD_plain hz), hz, q _ _ _ _ _ _ k1 E1 S1 (.str _)⟩
/-- a != b of two texts -/
def neSt : D → D → Option D
  | .str a, .str b => some (.bool (!decide (a = b)))
  | _, _ => none
theorem od_neSt : OpD X (compareOp .NotEq) neSt := by
  refine ⟨_, op_ne, fun T Hh H x y dx dy z Q hK s ix iy hg q => ?_⟩
  unfold neSt at hg
  split at hg
  · cases hg
    cases ix
    cases iy
    rename_i a b
    refine ⟨rfl, ?_⟩
    have e1 : decide (V.str a = V.str b) = decide (a = b) := decide_eq_decide.mpr ⟨fun h => V.str.inj h, fun h => by rw [h]⟩
    rw [e1]
    exact q.flat fun _ => .bl _
  · cases hg
end
section
variable {P : Program} {w : World} {K : PySem.W.Frag} {mg : Str → Option Value} {base : Heap} {g : Glob}
/-- a def that raises nothing, called where no repr is under way -/
theorem fnDG {x qual : Str} {st : Stmt} {f : Addr} {fd : FuncData} {N ps : List Str} {k : Nat} {sd : SpD} {cs : CS} (F : Fun K x qual st f fd) (S : FnScope N ps (defScope st)) (hl : ∀ ds n k ke, sd ds n k ke → ds.length = ps.length)
    (hbody : ∀ (cdv : Value) (A : Around) (outer : List Env) (s : Shared) (H : Hp) (E : XK), (A.deeper (envOfC qual (defScope st) s.heap.objs.size f cdv)).guards = some [] → Room k (A.deeper (envOfC qual (defScope st) s.heap.objs.size f cdv)) → PDSs (cxOf CX0 P w K mg base N qual (defScope st) f cdv A outer s H E).nox g xF (defBody st) cs)
    (himp : ∀ ds n k ke, sd ds n k ke → cs (startE N ds) n ⟨fun _ n' => k .none n', k, fun _ _ => False, fun _ _ => False, kF⟩) : FnG P w K mg base (k + 1) f fd ps (spD g sd) := by
  refine fnG_mk F S (fun vs H Q E h => ?_) (fun cdv A outer s H vs Q E gd hr h => ?_)
  · obtain ⟨C, ds, n, k, ke, _, _, _, i, sdd, _, _⟩ := h
    rw [i.length]
    exact hl _ _ _ _ sdd
  · refine ⟨_, (hbody cdv A outer s H E gd hr).pss, ?_⟩
    obtain ⟨C, ds, n, k, ke, hK, e0, Ev0, i, sdd, q, _⟩ := h
    exact ⟨C, _, n, now, _, hK, ev_start Ev0 i, himp _ _ _ _ sdd, ⟨fun ρ n' σ' H' O' a E' S' => q _ _ _ _ a E'.fin .non, fun d n' v H' a F b => q _ _ _ _ a F b, fun _ _ _ _ _ h => h.elim, fun _ _ _ _ _ h => h.elim, xl_F⟩⟩
end
theorem FnG.imp {P : Program} {w : World} {K : PySem.W.Frag} {mg : Str → Option Value} {base : Heap} {k : Nat} {f : Addr} {fd : FuncData} {ps : List Str} {sp sp' : Sp} (F : FnG P w K mg base k f fd ps sp) (h : ∀ vs H Q E, sp' vs H Q E → sp vs H Q E) : FnG P w K mg base k f fd ps sp' :=
  ⟨fun vs H Q E z => F.len vs H Q E (h _ _ _ _ z), fun A outer s H args us vs Q E a b c d e z => F.run A outer s H args us vs Q E a b c d e (h _ _ _ _ z)⟩
end RM
namespace RM
open PySem PySem.Spec PyProof.Rows L2 CS RZ
/-! ### isinstance(x, int): a bool is one, too -/
def cIsInt (o : Opd) : CE := fun ρ n k ke => cOpd o ρ n (fun get ρ1 n1 => ∃ d t, get ρ1 = some d ∧ kindD d = some t ∧ k (.bool (t == "int" || t == "bool")) ρ1 n1) ke
def kitIB : Bool := kinds.all fun t => kitB t "int" == some (t == "int" || t == "bool")
section
variable {X : Cx} {g : Glob} {xk : WX} {pos p : Pos}
theorem pd_isInt {e : Expr} {o : Opd} {x : Str} {px : Pos} (G : Good X g) (h : PDQ X g xk e o) (gx : Gl X x) (mx : X.mg x = none) (vx : bootBuiltins x = some (.type "int")) (hg : Gl X "isinstance") (hm : X.mg "isinstance" = none)
    (nx : x ≠ "__name__" := by decide) (dx : (x == ("__debug__" : Str)) = false := by decide)
    (hs : starEach [e, .Name x px] X.env = (false, eval e X.env) :: starEach [.Name x px] X.env := by rfl) (hs2 : starEach [.Name x px] X.env = (false, eval (.Name x px) X.env) :: starEach [] X.env := by rfl)
    (hpl : (backTo pos (starEach [.Name x px] X.env)).any (·.1) = false := by rfl) : PD X g xk (.Call (.Name "isinstance" p) [e, .Name x px] [] pos) (cIsInt o) := by
  refine ⟨PE.imp (pe_callB call_isi hg hm (by decide +kernel) (pa_cons h.pe (pa_cons (pe_bltn (v := .ty "int") gx mx vx rfl nx dx) pa_nil hs2) hs) (by decide) (by decide) hs hpl) fun σ H Q r => ?_⟩
  obtain ⟨C, ρ, n, O, k, ke, hK, E, t, x, q⟩ := r
  refine ⟨C, ρ, n, O, _, ke, hK, E, t, x, fun get ρ1 n1 v H1 O1 k1 E1 S1 p1 => ?_⟩
  obtain ⟨d, t, h1, h2, k1⟩ := k1
  have iv := kind_ty ((p1 _ _ _ _ _ E1 (Same.refl _) h1).is hid_le) h2
  have hk : kitIB = true := by decide +kernel
  have hkt : PySem.W.kitOne X.K (.type t) (.type "int") = some (t == "int" || t == "bool") := by
    unfold kitIB at hk
    simp only [List.all_eq_true, beq_iff_eq] at hk
    exact kit_ty (hk t (kind_mem h2))
  exact ⟨v, .ty "int", .type t, .type "int", _, rfl, .ty "int", (hK.1.trans G.K) ▸ iv, hkt, q _ _ _ _ _ _ k1 E1 S1 (.bl _)⟩
end
/-! ### things that may be crossings (k68) -/
/-- a small number -/
def SmI (i : Int) : Prop := -(2 ^ 200) < i ∧ i < 2 ^ 200
/-- a member of such a thing -/
inductive Me : D → Prop
  | int {i : Int} (h : SmI i) : Me (.int i)
  | non : Me .none
  | bl (b : Bool) : Me (.bool b)
  | str {z : Str} (h : GoodS z) (hl : z.length ≤ 5) : Me (.str z)
  | tup {is : List Int} (h : ∀ i ∈ is, SmI i) (hl : is.length ≤ 5) : Me (.tuple (is.map PyData.int))
inductive Mt : D → Prop
  | tup {ds : List D} (h : ∀ d ∈ ds, Me d) (hl : ds.length ≤ 5) : Mt (.tuple ds)
  | lst {ds : List D} (h : ∀ d ∈ ds, Me d) (hl : ds.length ≤ 5) : Mt (.list ds)
  | me {d : D} (h : Me d) : Mt d
def numB : D → Bool
  | .int _ => true
  | _ => false
abbrev n_is_number : List Str := ["thing"]
def cs_is_number : CS := cRet (cAndV (cIsInt (.nm 0)) (cNotV (cIsK1 (.nm 0) "bool")))
def sdIsNum : SpD := fun ds n k _ => ∃ d, ds = [d] ∧ Me d ∧ k (.bool (numB d)) n
section
variable {e : EndsD}
theorem himp_is_number (ds : List D) (n : Nat) (k : D → Nat → Prop) (ke : Xv → Nat → Prop) (h : sdIsNum ds n k ke) (he : e.rt = k) : cs_is_number (startE n_is_number ds) n e := by
  obtain ⟨d, rfl, hd, q⟩ := h
  subst he
  cases hd with
  | int _ => exact ⟨rfl, _, _, rfl, rfl, true, rfl, rfl, _, _, rfl, rfl, false, rfl, q⟩
  | bl b => exact ⟨rfl, _, _, rfl, rfl, true, rfl, rfl, _, _, rfl, rfl, true, rfl, q⟩
  | non => exact ⟨rfl, _, _, rfl, rfl, false, rfl, q⟩
  | str _ _ => exact ⟨rfl, _, _, rfl, rfl, false, rfl, q⟩
  | tup _ _ => exact ⟨rfl, _, _, rfl, rfl, false, rfl, q⟩
end
/-! check_size, cut -/
theorem cutL_mid {ds : List D} {i j : Nat} (h : i ≤ ds.length) : cutL ds (some ((i : Nat) : Int)) (some ((j : Nat) : Int)) = (ds.drop i).take (j - i) := by
  unfold cutL
  rw [show HT.sIx ds.length 0 (some ((i : Nat) : Int)) = min i ds.length from HT.sIx_nat _ _ _, show HT.sIx ds.length ds.length (some ((j : Nat) : Int)) = min j ds.length from HT.sIx_nat _ _ _, Nat.min_eq_left h]
  by_cases c : j ≤ ds.length
  · rw [Nat.min_eq_left c]
  · rw [Nat.min_eq_right (by omega)]
    rw [List.take_of_length_le (by rw [List.length_drop]; omega), List.take_of_length_le (by rw [List.length_drop]; omega)]
def sdCheckSize : SpD := fun ds n k _ => ∃ (x : D) (row : List Str) (f : Nat), ds = [x, .int f] ∧ seqD x = some (strD row) ∧ row.length ≤ 60 ∧ 2 ≤ f ∧ f ≤ row.length + 1 ∧ k .none n
def cNoSize : Nat := 11
abbrev n_check_size : List Str := ["journey", "size"]
def cs_check_size : CS := cIfS (cOrT (cB (cOp ltD (cVar 1) (cC (.int 2)))) (cB (cOp gtD (cVar 1) (cOp addD (cCB gLen (cCons (cVar 0) (cNil))) (cC (.int 1)))))) (cRaise cNoSize ["number"] (cCons (cVar 1) (cNil))) (cNext)
theorem len_strD (row : List Str) : (strD row).length = row.length := by unfold strD; rw [List.length_map]
section
variable {e : EndsD}
theorem himp_check_size (ds : List D) (n : Nat) (k : D → Nat → Prop) (ke : Xv → Nat → Prop) (h : sdCheckSize ds n k ke) (he : ∀ ρ n', k .none n' → e.nx ρ n') : cs_check_size (startE n_check_size ds) n e := by
  obtain ⟨x, row, f, rfl, hs, hl, h2, h3, q⟩ := h
  have hll := len_strD row
  have e1 : ltD (.int ((f : Nat) : Int)) (.int 2) = some (.bool false) := by
    show some (PyData.bool (decide (((f : Nat) : Int) < 2))) = _
    rw [decide_eq_false (by omega)]
  have e2 : gtD (.int ((f : Nat) : Int)) (.int ((((strD row).length : Nat) : Int) + 1)) = some (.bool false) := by
    show some (PyData.bool (decide (((((strD row).length : Nat) : Int) + 1) < ((f : Nat) : Int)))) = _
    rw [decide_eq_false (by rw [hll]; omega)]
  exact ⟨_, e1, false, rfl, _, ⟨_, _, rfl, lenD_seq hs, rfl⟩, _, rfl, _, e2, false, rfl, he _ _ q⟩
end
/-- the stretches -/
def stS (row : List Str) (f i : Nat) : List Str := (row.drop i).take f
def cutS (row : List Str) (f : Nat) : List (List Str) := (List.range (row.length + 1 - f)).map (stS row f)
def sdCut : SpD := fun ds n k _ => ∃ (x : D) (row : List Str) (f : Nat), ds = [x, .int f] ∧ seqD x = some (strD row) ∧ row.length ≤ 60 ∧ f ≤ row.length ∧ k (.list ((cutS row f).map rowT)) n
abbrev n_cut : List Str := ["journey", "size", "at"]
def cs_cut : CS := cRet (cLc (cRange1 (cCons (cOp subD (cOp addD (cCB gLen (cCons (cVar 0) (cNil))) (cC (.int 1))) (cVar 1)) (cNil))) (stN 2) (cYes) (cCB gTuple (cCons (cSl (cVar 0) (cPart (cVar 2)) (cPart (cOp addD (cVar 2) (cVar 1)))) (cNil))) [2])
theorem slice_seq {x : D} {l : List D} (h : seqD x = some l) (lo hi : Option Int) : ∃ z, sliceD x lo hi = some z ∧ seqD z = some (cutL l lo hi) := by
  cases x <;> first | (cases h; exact ⟨_, rfl, rfl⟩) | cases h
theorem mid_strD (row : List Str) (i f : Nat) (h : i ≤ row.length) : cutL (strD row) (some ((i : Nat) : Int)) (some ((i + f : Nat) : Int)) = strD (stS row f i) := by
  rw [cutL_mid (by rw [len_strD]; exact h)]
  unfold strD stS
  rw [← List.map_drop, ← List.map_take, Nat.add_sub_cancel_left]
section
variable {e : EndsD}
theorem himp_cut (ds : List D) (n : Nat) (k : D → Nat → Prop) (ke : Xv → Nat → Prop) (h : sdCut ds n k ke) (he : e.rt = k) : cs_cut (startE n_cut ds) n e := by
  obtain ⟨x, row, f, rfl, hs, hl, hf, q⟩ := h
  subst he
  have hll := len_strD row
  have h5 : (1000 : Nat) ≤ lim := by decide
  refine ⟨_, ⟨_, _, rfl, lenD_seq hs, rfl⟩, _, rfl, _, rfl, _, rfl, ⟨by rw [hll]; omega, by rw [hll]; omega⟩, ?_⟩
  have en : (((((strD row).length : Nat) : Int) + 1) - ((f : Nat) : Int)).toNat = row.length + 1 - f := by rw [hll]; omega
  rw [en]
  show cLcL _ _ _ _ ((List.range (row.length + 1 - f)).map fun i : Nat => PyData.int (0 + ((i : Nat) : Int))) [some (.v x), some (.v (.int ((f : Nat) : Int))), none] n [] _
  refine map_run (fun i : Nat => PyData.int (0 + ((i : Nat) : Int))) (fun _ => true) (fun i => rowT (stS row f i)) (List.range (row.length + 1 - f)) [] (fun i hi => ⟨[some (.v x), some (.v (.int ((f : Nat) : Int))), some (.v (.int (0 + ((i : Nat) : Int))))], rfl, rfl, fun K1 hK => hK, fun K2 hK => ?_⟩) (by rw [List.length_nil, List.length_range]; omega) ?_
  · have hi := List.mem_range.mp hi
    obtain ⟨z, hz1, hz2⟩ := slice_seq hs (some ((i : Nat) : Int)) (some ((i + f : Nat) : Int))
    rw [mid_strD row i f (by omega)] at hz2
    refine ⟨_, rfl, _, rfl, _, rfl, z, ?_, _, ⟨z, _, rfl, hz2, rfl⟩, hK⟩
    rw [show (0 : Int) + ((i : Nat) : Int) = ((i : Nat) : Int) by omega, show ((i : Nat) : Int) + ((f : Nat) : Int) = ((i + f : Nat) : Int) by omega]
    exact hz1
  · rw [filter_true, List.nil_append]
    have e1 : ((List.range (row.length + 1 - f)).map fun i => rowT (stS row f i)) = (cutS row f).map rowT := by
      unfold cutS
      rw [List.map_map]
      rfl
    rw [e1]
    exact q
end
end RM
namespace RM
open PySem PySem.Spec PyProof.Rows L2 CS RZ
/-! ### is_crossing_by (k68) -/
def condB (row : List Str) (f : Nat) (a b c e : Int) : Prop := 0 ≤ a ∧ a < b ∧ b ≤ c ∧ c < e ∧ e < ((row.length + 2 - f : Nat) : Int)
instance {row : List Str} {f : Nat} {a b c e : Int} : Decidable (condB row f a b c e) := by unfold condB; infer_instance
def fourB (row : List Str) (f : Nat) (a b c e : Int) : Bool := decide (condB row f a b c e) && (decide (stS row (f - 1) a.toNat = stS row (f - 1) c.toNat) && (decide (stS row (f - 1) b.toNat = stS row (f - 1) e.toNat) && !decide (stS row (f - 1) (a.toNat + 1) = stS row (f - 1) (c.toNat + 1))))
def crossB (row : List Str) (f : Nat) : D → Bool
  | .tuple [.int a, .int b, .int c, .int e] => fourB row f a b c e
  | _ => false
theorem cross_yes {row : List Str} {f : Nat} {ds : List D} (h : crossB row f (.tuple ds) = true) : ds.length = 4 ∧ ds.all numB = true := by
  unfold crossB at h
  split at h
  · rename_i q
    cases q
    exact ⟨rfl, rfl⟩
  · cases h
theorem num_is {d : D} (h : numB d = true) : ∃ i, d = .int i := by
  cases d <;> first | exact ⟨_, rfl⟩ | cases h
theorem four_of {ds : List D} (h4 : ds.length = 4) (h : ds.all numB = true) : ∃ a b c e, ds = [.int a, .int b, .int c, .int e] := by
  match ds, h4, h with
  | [x, y, z, w], _, h =>
    simp only [List.all_cons, List.all_nil, Bool.and_eq_true, and_true] at h
    obtain ⟨h1, h2, h3, h4⟩ := h
    obtain ⟨a, rfl⟩ := num_is h1
    obtain ⟨b, rfl⟩ := num_is h2
    obtain ⟨c, rfl⟩ := num_is h3
    obtain ⟨e, rfl⟩ := num_is h4
    exact ⟨a, b, c, e, rfl⟩
theorem mt_cases {d : D} (h : Mt d) : (∃ ds, d = .tuple ds ∧ (∀ x ∈ ds, Me x) ∧ ds.length ≤ 5) ∨ (∃ t, kindD d = some t ∧ decide (t = "tuple") = false ∧ ∀ row f, crossB row f d = false) := by
  cases h with
  | tup h hl => exact .inl ⟨_, rfl, h, hl⟩
  | lst h hl => exact .inr ⟨"list", rfl, by decide, fun _ _ => rfl⟩
  | me h =>
    cases h with
    | int _ => exact .inr ⟨"int", rfl, by decide, fun _ _ => rfl⟩
    | non => exact .inr ⟨"NoneType", rfl, by decide, fun _ _ => rfl⟩
    | bl b => exact .inr ⟨"bool", rfl, by decide, fun _ _ => rfl⟩
    | str _ _ => exact .inr ⟨"str", rfl, by decide, fun _ _ => rfl⟩
    | tup h hl => exact .inl ⟨_, rfl, fun x hx => by
        obtain ⟨i, hi, rfl⟩ := List.mem_map.mp hx
        exact .int (h i hi), by rw [List.length_map]; exact hl⟩
theorem cut_len (row : List Str) (f : Nat) : ((cutS row f).map rowT).length = row.length + 1 - f := by
  unfold cutS
  rw [List.length_map, List.length_map, List.length_range]
theorem cut_at {row : List Str} {f : Nat} {i : Int} (h0 : 0 ≤ i) (h : i < ((row.length + 1 - f : Nat) : Int)) : atD (.list ((cutS row f).map rowT)) (.int i) = some (rowT (stS row f i.toNat)) := by
  have e : i = ((i.toNat : Nat) : Int) := by omega
  show atI _ i = _
  rw [e]
  refine atI_nat ?_
  unfold cutS
  have hh : i.toNat < row.length + 1 - f := by omega
  simp only [List.map_map, List.getElem?_map, List.getElem?_range hh, Option.map_some, Function.comp, Int.toNat_natCast]
theorem good_st {row : List Str} (h : ∀ y ∈ row, GoodS y) (f i : Nat) : ∀ y ∈ stS row f i, GoodS y := fun y hy => h y (List.mem_of_mem_drop (List.mem_of_mem_take hy))
abbrev n_is_crossing : List Str := ["journey", "size", "thing", "rows", "one", "inner", "other", "late", "member"]
def ic_1 : CS := cDrop (cCall sdCheckSize (cCons (cVar 0) (cCons (cVar 1) (cNil))))
def ic_2 : CS := cIfS (cOrT (cNotT (cB (cIsK1 (.nm 2) "tuple"))) (cOrT (cB (cOp neD (cCB gLen (cCons (cVar 2) (cNil))) (cC (.int 4)))) (cNotT (cB (cCB gAll (cCons (cLc (cSeq (cVar 2)) (stN 8) (cYes) (cCall sdIsNum (cCons (cVar 8) (cNil))) [8]) (cNil))))))) (cRet (cC (.bool false))) (cNext)
def ic_3 : CS := cAsg (stT (stCons (stN 4) (stCons (stN 5) (stCons (stN 6) (stCons (stN 7) (stNil)))))) (cVar 2)
def ic_4 : CS := cSet 3 (cCall sdCut (cCons (cVar 0) (cCons (cOp subD (cVar 1) (cC (.int 1))) (cNil))))
def ic_5 : CS := cIfS (cNotT (cChainN (cC (.int 0)) [(leD, cVar 4), (ltD, cVar 5), (leD, cVar 6), (ltD, cVar 7), (ltD, cCB gLen (cCons (cVar 3) (cNil)))])) (cRet (cC (.bool false))) (cNext)
def ic_6 : CS := cRet (cAndV (cOp eqD (cOp atD (cVar 3) (cVar 4)) (cOp atD (cVar 3) (cVar 6))) (cAndV (cOp eqD (cOp atD (cVar 3) (cVar 5)) (cOp atD (cVar 3) (cVar 7))) (cOp neD (cOp atD (cVar 3) (cOp addD (cVar 4) (cC (.int 1)))) (cOp atD (cVar 3) (cOp addD (cVar 6) (cC (.int 1)))))))
def cs_is_crossing : CS := cSq ic_1 (cSq ic_2 (cSq ic_3 (cSq ic_4 (cSq ic_5 (ic_6)))))
def sdIsCross : SpD := fun ds n k _ => ∃ (x : D) (row : List Str) (f : Nat) (d : D), ds = [x, .int f, d] ∧ seqD x = some (strD row) ∧ (∀ y ∈ row, GoodS y) ∧ row.length ≤ 60 ∧ 2 ≤ f ∧ f ≤ row.length + 1 ∧ Mt d ∧ k (.bool (crossB row f d)) n
section
variable {e : EndsD}
/-- 0 <= a < b <= c < e < m, told as a test -/
theorem chain_run {a b c ee : Int} {l : List D} {Cf : Prop} {C5 : Bool → Prop} (hf : ¬ (0 ≤ a ∧ a < b ∧ b ≤ c ∧ c < ee) → Cf) (h5 : 0 ≤ a → a < b → b ≤ c → c < ee → C5 (decide (ee < ((l.length : Nat) : Int)))) :
    ∃ b1, leD (.int 0) (.int a) = some (.bool b1) ∧ (if b1 = true then ∃ b2, ltD (.int a) (.int b) = some (.bool b2) ∧ (if b2 = true then ∃ b3, leD (.int b) (.int c) = some (.bool b3) ∧ (if b3 = true then ∃ b4, ltD (.int c) (.int ee) = some (.bool b4) ∧ (if b4 = true then
      ∃ z, gLen [.list l] z ∧ ∃ b5, ltD (.int ee) z = some (.bool b5) ∧ C5 b5 else Cf) else Cf) else Cf) else Cf) := by
  refine ⟨decide (0 ≤ a), rfl, ?_⟩
  by_cases h1 : 0 ≤ a
  rotate_left
  · rw [if_neg (by simpa using h1)]
    exact hf fun z => h1 z.1
  rw [if_pos (decide_eq_true h1)]
  refine ⟨decide (a < b), rfl, ?_⟩
  by_cases h2 : a < b
  rotate_left
  · rw [if_neg (by simpa using h2)]
    exact hf fun z => h2 z.2.1
  rw [if_pos (decide_eq_true h2)]
  refine ⟨decide (b ≤ c), rfl, ?_⟩
  by_cases h3 : b ≤ c
  rotate_left
  · rw [if_neg (by simpa using h3)]
    exact hf fun z => h3 z.2.2.1
  rw [if_pos (decide_eq_true h3)]
  refine ⟨decide (c < ee), rfl, ?_⟩
  by_cases h4 : c < ee
  rotate_left
  · rw [if_neg (by simpa using h4)]
    exact hf fun z => h4 z.2.2.2
  rw [if_pos (decide_eq_true h4)]
  exact ⟨_, ⟨_, _, rfl, rfl, rfl⟩, _, rfl, h5 h1 h2 h3 h4⟩
theorem himp_is_crossing (ds : List D) (n : Nat) (k : D → Nat → Prop) (ke : Xv → Nat → Prop) (h : sdIsCross ds n k ke) (he : e.rt = k) (hx : ∀ x ρ n, ke x n → e.xc x ρ n) : cs_is_crossing (startE n_is_crossing ds) n e := by
  obtain ⟨x, row, f, d, rfl, hs, hg, hl, h2, h3, hm, q⟩ := h
  subst he
  have h5 : (1000 : Nat) ≤ lim := by decide
  refine ⟨x, row, f, rfl, hs, hl, h2, h3, ?_⟩
  rcases mt_cases hm with ⟨ms, rfl, hme, hml⟩ | ⟨t, ht, hnt, hc⟩
  rotate_left
  · rw [hc] at q
    refine ⟨rfl, d, t, rfl, ht, false, by rw [hnt], ?_⟩
    exact q
  refine ⟨rfl, .tuple ms, "tuple", rfl, rfl, true, rfl, ?_⟩
  refine ⟨_, ⟨.tuple ms, _, rfl, rfl, rfl⟩, _, neD_int _ _, _, rfl, ?_⟩
  by_cases h4 : ms.length = 4
  rotate_left
  · have : crossB row f (.tuple ms) = false := Bool.eq_false_iff.mpr fun z => h4 (cross_yes z).1
    rw [this] at q
    have e1 : (!((((ms.length : Nat) : Int)) == 4)) = true := by
      have : ((((ms.length : Nat) : Int)) == 4) = false := beq_eq_false_iff_ne.mpr (by omega)
      rw [this]; rfl
    rw [e1]
    exact q
  have e1 : (!((((ms.length : Nat) : Int)) == 4)) = false := by rw [h4]; rfl
  rw [e1]
  refine ⟨ms, rfl, ?_⟩
  show cLcL _ _ _ _ ms [some (.v x), some (.v (.int ((f : Nat) : Int))), some (.v (.tuple ms)), none, none, none, none, none, none] n [] _
  rw [show ms = ms.map _root_.id from (List.map_id ms).symm]
  refine map_run _root_.id (fun _ => true) (fun d => .bool (numB d)) ms [] (fun d hd => ⟨[some (.v x), some (.v (.int ((f : Nat) : Int))), some (.v (.tuple (ms.map _root_.id))), none, none, none, none, none, some (.v d)], rfl, rfl, fun K1 hK => hK, fun K2 hK => ⟨d, rfl, hme d hd, hK⟩⟩) (by rw [List.length_nil]; omega) ?_
  rw [filter_true, List.nil_append]
  have e2 : (ms.map fun d => PyData.bool (numB d)) = boolsD (ms.map numB) := by
    unfold boolsD
    rw [List.map_map]
    rfl
  rw [e2]
  refine ⟨_, ⟨_, rfl, rfl⟩, _, rfl, ?_⟩
  rw [List.all_map, show (_root_.id ∘ numB) = numB from rfl, List.map_id]
  cases h6 : ms.all numB with
  | false =>
    have : crossB row f (.tuple ms) = false := Bool.eq_false_iff.mpr fun z => by rw [(cross_yes z).2] at h6; cases h6
    rw [this] at q
    exact q
  | true =>
    obtain ⟨a, b, c, ee, rfl⟩ := four_of h4 h6
    refine ⟨[some (.v x), some (.v (.int ((f : Nat) : Int))), some (.v (.tuple [.int a, .int b, .int c, .int ee])), none, some (.v (.int a)), some (.v (.int b)), some (.v (.int c)), some (.v (.int ee)), none], rfl, ?_⟩
    refine ⟨_, rfl, x, row, f - 1, ?_, hs, hl, by omega, ?_⟩
    · have : ((f : Nat) : Int) - 1 = ((f - 1 : Nat) : Int) := by omega
      rw [← this]
    show ic_5 [some (.v x), some (.v (.int ((f : Nat) : Int))), some (.v (.tuple [.int a, .int b, .int c, .int ee])), some (.v (.list ((cutS row (f - 1)).map rowT))), some (.v (.int a)), some (.v (.int b)), some (.v (.int c)), some (.v (.int ee)), none] n _
    have el : ((cutS row (f - 1)).map rowT).length = row.length + 2 - f := by rw [cut_len]; omega
    have q : e.rt (.bool (fourB row f a b c ee)) n := q
    have Kf : ¬ condB row f a b c ee → e.rt (.bool false) n := fun hc => by
      unfold fourB at q
      rw [decide_eq_false hc] at q
      exact q
    refine chain_run (l := (cutS row (f - 1)).map rowT) (Cf := e.rt (.bool false) n) (C5 := fun bb => if (!bb) = true then e.rt (.bool false) n else ic_6 [some (.v x), some (.v (.int ((f : Nat) : Int))), some (.v (.tuple [.int a, .int b, .int c, .int ee])), some (.v (.list ((cutS row (f - 1)).map rowT))), some (.v (.int a)), some (.v (.int b)), some (.v (.int c)), some (.v (.int ee)), none] n e) (fun z => Kf fun y => z ⟨y.1, y.2.1, y.2.2.1, y.2.2.2.1⟩) fun g0 g1 g2 g3 => ?_
    rw [el]
    by_cases g4 : ee < ((row.length + 2 - f : Nat) : Int)
    rotate_left
    · rw [decide_eq_false g4]
      exact Kf fun y => g4 y.2.2.2.2
    rw [decide_eq_true g4]
    show ic_6 _ _ _
    have hcond : condB row f a b c ee := ⟨g0, g1, g2, g3, g4⟩
    unfold fourB at q
    rw [decide_eq_true hcond, Bool.true_and] at q
    have A : ∀ i : Int, 0 ≤ i → i ≤ ee → atD (.list ((cutS row (f - 1)).map rowT)) (.int i) = some (rowT (stS row (f - 1) i.toNat)) := fun i p1 p2 => cut_at p1 (by omega)
    refine ⟨_, A a g0 (by omega), _, A c (by omega) (by omega), _, eqD_rowT (good_st hg _ _) (good_st hg _ _), _, rfl, ?_⟩
    by_cases j1 : stS row (f - 1) a.toNat = stS row (f - 1) c.toNat
    rotate_left
    · rw [decide_eq_false j1] at q ⊢
      exact q
    rw [decide_eq_true j1] at q ⊢
    rw [Bool.true_and] at q
    refine ⟨_, A b (by omega) (by omega), _, A ee (by omega) (by omega), _, eqD_rowT (good_st hg _ _) (good_st hg _ _), _, rfl, ?_⟩
    by_cases j2 : stS row (f - 1) b.toNat = stS row (f - 1) ee.toNat
    rotate_left
    · rw [decide_eq_false j2] at q ⊢
      exact q
    rw [decide_eq_true j2] at q ⊢
    rw [Bool.true_and] at q
    refine ⟨_, rfl, _, A (a + 1) (by omega) (by omega), _, rfl, _, A (c + 1) (by omega) (by omega), _, neD_rowT (good_st hg _ _) (good_st hg _ _), ?_⟩
    rw [show (a + 1).toNat = a.toNat + 1 by omega, show (c + 1).toNat = c.toNat + 1 by omega]
    exact q
end
end RM
namespace RM
open PySem PySem.Spec PyProof.Rows L2 CS RZ
/-! ### what the law calls a crossing (k68) -/
theorem OkN.non (k : Nat) : OkN k .none := ⟨rfl, by simp [PyData.canLay0], by simp [PyData.depth]⟩
theorem OkN.bl (k : Nat) (b : Bool) : OkN k (.bool b) := ⟨rfl, by simp [PyData.canLay0], by simp [PyData.depth]⟩
theorem Me.ok {d : D} (h : Me d) : OkN 1 d := by
  cases h with
  | int _ => exact OkN.int _ _
  | non => exact OkN.non _
  | bl b => exact OkN.bl _ b
  | str g _ => exact OkN.str _ g
  | tup _ _ =>
    refine OkN.tuple fun d hd => ?_
    obtain ⟨i, _, rfl⟩ := List.mem_map.mp hd
    exact OkN.int _ _
theorem neD_mes {l : List D} (h : ∀ d ∈ l, Me d) : neD (.list l) (.list []) = some (.bool (!l.isEmpty)) := by
  unfold neD
  have e1 : okE (.list l) = true := (OkN.list (k := 1) fun d hd => (h d hd).ok).ok (by decide)
  rw [e1, nil_ok, if_pos (show (true && true) = true from rfl)]
  cases l <;> simp [PyData.eqv, PyData.eqvAll]
theorem st_cons {row : List Str} {m i : Nat} (hi : i < row.length) : stS row (m + 1) i = row[i] :: (row.drop (i + 1)).take m := by
  unfold stS
  rw [List.drop_eq_getElem_cons hi, List.take_succ_cons]
theorem st_snoc {row : List Str} {m i : Nat} (hi : i + m + 1 < row.length) : stS row (m + 1) (i + 1) = (row.drop (i + 1)).take m ++ [row[i + m + 1]] := by
  unfold stS
  rw [List.take_succ, List.getElem?_drop]
  have e : i + 1 + m = i + m + 1 := by omega
  rw [e, List.getElem?_eq_getElem hi]
  rfl
theorem st_next {row : List Str} {m i j : Nat} (hi : i + m + 1 < row.length) (hj : j + m + 1 < row.length) (h : stS row (m + 1) i = stS row (m + 1) j) : (stS row (m + 1) (i + 1) = stS row (m + 1) (j + 1)) ↔ row[i + m + 1] = row[j + m + 1] := by
  rw [st_cons (by omega), st_cons (by omega)] at h
  have h2 := (List.cons.inj h).2
  rw [st_snoc hi, st_snoc hj, h2]
  constructor
  · intro z
    have := List.append_cancel_left z
    exact (List.cons.inj this).1
  · intro z
    rw [z]
abbrev n_crosses : List Str := ["_law_row_so", "_law_far", "_law_mat", "_law_rows_so", "_law_one", "_law_two", "_law_three", "_law_last_so", "_law_k", "_law_own"]
def cx_1 : CS := cIfS (cOrT (cNotT (cB (cIsK1 (.nm 2) "tuple"))) (cB (cOp neD (cCB gLen (cCons (cVar 2) (cNil))) (cC (.int 4))))) (cRet (cC (.bool false))) (cNext)
def cx_2 : CS := cIfS (cB (cOp neD (cLc (cSeq (cVar 2)) (stN 9) (cOrT (cNotT (cB (cIsInt (.nm 9)))) (cB (cIsK1 (.nm 9) "bool"))) (cVar 9) [9]) (cLst (cNil)))) (cRet (cC (.bool false))) (cNext)
def cx_3 : CS := cAsg (stT (stCons (stN 4) (stCons (stN 5) (stCons (stN 6) (stCons (stN 7) (stNil)))))) (cVar 2)
def cx_4 : CS := cOwn 3 (cLc (cRange1 (cCons (cOp addD (cOp subD (cCB gLen (cCons (cVar 0) (cNil))) (cVar 1)) (cC (.int 2))) (cNil))) (stN 8) (cYes) (cSl (cVar 0) (cPart (cVar 8)) (cPart (cOp subD (cOp addD (cVar 8) (cVar 1)) (cC (.int 1))))) [8])
def cx_5 : CS := cIfS (cNotT (cChainN (cC (.int 0)) [(leD, cVar 4), (ltD, cVar 5), (leD, cVar 6), (ltD, cVar 7), (ltD, cCB gLen (cCons (cVar 3) (cNil)))])) (cRet (cC (.bool false))) (cNext)
def cx_6 : CS := cIfS (cOrT (cB (cOp neD (cOp atD (cVar 3) (cVar 4)) (cOp atD (cVar 3) (cVar 6)))) (cB (cOp neD (cOp atD (cVar 3) (cVar 5)) (cOp atD (cVar 3) (cVar 7))))) (cRet (cC (.bool false))) (cNext)
def cx_7 : CS := cRet (cOp neD (cOp atD (cVar 0) (cOp subD (cOp addD (cVar 4) (cVar 1)) (cC (.int 1)))) (cOp atD (cVar 0) (cOp subD (cOp addD (cVar 6) (cVar 1)) (cC (.int 1)))))
def cs_crosses : CS := cSq cx_1 (cSq cx_2 (cSq cx_3 (cSq cx_4 (cSq cx_5 (cSq cx_6 (cx_7))))))
def sdCrosses : SpD := fun ds n k _ => ∃ (row : List Str) (f : Nat) (d : D), ds = [rowT row, .int f, d] ∧ (∀ y ∈ row, GoodS y) ∧ row.length ≤ 60 ∧ 2 ≤ f ∧ f ≤ row.length + 1 ∧ Mt d ∧ k (.bool (crossB row f d)) n
section
variable {e : EndsD}
theorem himp_crosses (ds : List D) (n : Nat) (k : D → Nat → Prop) (ke : Xv → Nat → Prop) (h : sdCrosses ds n k ke) (he : e.rt = k) : cs_crosses (startE n_crosses ds) n e := by
  obtain ⟨row, f, d, rfl, hg, hl, h2, h3, hm, q⟩ := h
  subst he
  have h5 : (1000 : Nat) ≤ lim := by decide
  have hll := len_strD row
  rcases mt_cases hm with ⟨ms, rfl, hme, hml⟩ | ⟨t, ht, hnt, hc⟩
  rotate_left
  · rw [hc] at q
    refine ⟨rfl, d, t, rfl, ht, false, by rw [hnt], ?_⟩
    exact q
  refine ⟨rfl, .tuple ms, "tuple", rfl, rfl, true, rfl, ?_⟩
  refine ⟨_, ⟨.tuple ms, _, rfl, rfl, rfl⟩, _, neD_int _ _, _, rfl, ?_⟩
  by_cases h4 : ms.length = 4
  rotate_left
  · have : crossB row f (.tuple ms) = false := Bool.eq_false_iff.mpr fun z => h4 (cross_yes z).1
    rw [this] at q
    have e1 : (!((((ms.length : Nat) : Int)) == 4)) = true := by
      have : ((((ms.length : Nat) : Int)) == 4) = false := beq_eq_false_iff_ne.mpr (by omega)
      rw [this]; rfl
    rw [e1]
    exact q
  have e1 : (!((((ms.length : Nat) : Int)) == 4)) = false := by rw [h4]; rfl
  rw [e1]
  refine ⟨ms, rfl, ?_⟩
  show cLcL _ _ _ _ ms [some (.v (rowT row)), some (.v (.int ((f : Nat) : Int))), some (.v (.tuple ms)), none, none, none, none, none, none, none] n [] _
  rw [show ms = ms.map _root_.id from (List.map_id ms).symm]
  refine map_run _root_.id (fun d => !numB d) _root_.id ms [] (fun d hd => ⟨[some (.v (rowT row)), some (.v (.int ((f : Nat) : Int))), some (.v (.tuple (ms.map _root_.id))), none, none, none, none, none, none, some (.v d)], rfl, rfl, fun K1 hK => ?_, fun K2 hK => hK⟩) (by rw [List.length_nil]; omega) ?_
  · cases hme d hd with
    | int _ => exact ⟨rfl, _, _, rfl, rfl, true, rfl, rfl, _, _, rfl, rfl, false, rfl, hK⟩
    | bl b => exact ⟨rfl, _, _, rfl, rfl, true, rfl, rfl, _, _, rfl, rfl, true, rfl, hK⟩
    | non => exact ⟨rfl, _, _, rfl, rfl, false, rfl, hK⟩
    | str _ _ => exact ⟨rfl, _, _, rfl, rfl, false, rfl, hK⟩
    | tup _ _ => exact ⟨rfl, _, _, rfl, rfl, false, rfl, hK⟩
  rw [List.map_id, List.map_id, List.nil_append]
  refine ⟨by show 0 ≤ lim; decide, _, neD_mes (fun d hd => hme d (List.mem_filter.mp hd).1), _, rfl, ?_⟩
  cases h6 : ms.all numB with
  | false =>
    have : crossB row f (.tuple ms) = false := Bool.eq_false_iff.mpr fun z => by rw [(cross_yes z).2] at h6; cases h6
    rw [this] at q
    have : (!(ms.filter fun d => !numB d).isEmpty) = true := by
      obtain ⟨d, hd, hn⟩ := List.all_eq_false.mp h6
      have hmem : d ∈ ms.filter fun d => !numB d := List.mem_filter.mpr ⟨hd, by simpa using hn⟩
      cases hh : ms.filter fun d => !numB d with
      | nil => rw [hh] at hmem; cases hmem
      | cons a l => rfl
    rw [this]
    exact q
  | true =>
    have : (!(ms.filter fun d => !numB d).isEmpty) = false := by
      have : ms.filter (fun d => !numB d) = [] := List.filter_eq_nil_iff.mpr fun d hd => by
        have := List.all_eq_true.mp h6 d hd
        rw [this]
        decide
      rw [this]
      rfl
    rw [this]
    obtain ⟨a, b, c, ee, rfl⟩ := four_of h4 h6
    refine ⟨[some (.v (rowT row)), some (.v (.int ((f : Nat) : Int))), some (.v (.tuple [.int a, .int b, .int c, .int ee])), none, some (.v (.int a)), some (.v (.int b)), some (.v (.int c)), some (.v (.int ee)), none, none], rfl, ?_⟩
    refine ⟨_, ⟨_, _, rfl, rfl, rfl⟩, _, rfl, _, rfl, _, rfl, ⟨by rw [hll]; omega, by rw [hll]; omega⟩, ?_⟩
    have en : (((((strD row).length : Nat) : Int) - ((f : Nat) : Int)) + 2).toNat = row.length + 1 - (f - 1) := by rw [hll]; omega
    rw [en]
    show cLcL _ _ _ _ ((List.range (row.length + 1 - (f - 1))).map fun i : Nat => PyData.int (0 + ((i : Nat) : Int))) [some (.v (rowT row)), some (.v (.int ((f : Nat) : Int))), some (.v (.tuple [.int a, .int b, .int c, .int ee])), none, some (.v (.int a)), some (.v (.int b)), some (.v (.int c)), some (.v (.int ee)), none, none] n [] _
    refine map_run (fun i : Nat => PyData.int (0 + ((i : Nat) : Int))) (fun _ => true) (fun i => rowT (stS row (f - 1) i)) (List.range (row.length + 1 - (f - 1))) [] (fun i hi => ⟨[some (.v (rowT row)), some (.v (.int ((f : Nat) : Int))), some (.v (.tuple [.int a, .int b, .int c, .int ee])), none, some (.v (.int a)), some (.v (.int b)), some (.v (.int c)), some (.v (.int ee)), some (.v (.int (0 + ((i : Nat) : Int)))), none], rfl, rfl, fun K1 hK => hK, fun K2 hK => ?_⟩) (by rw [List.length_nil, List.length_range]; omega) ?_
    · have hi := List.mem_range.mp hi
      refine ⟨_, rfl, _, rfl, _, rfl, _, rfl, rowT (stS row (f - 1) i), ?_, hK⟩
      rw [show (0 : Int) + ((i : Nat) : Int) = ((i : Nat) : Int) by omega, show ((i : Nat) : Int) + ((f : Nat) : Int) - 1 = ((i + (f - 1) : Nat) : Int) by omega]
      show some (PyData.tuple (cutL (strD row) (some ((i : Nat) : Int)) (some ((i + (f - 1) : Nat) : Int)))) = _
      rw [mid_strD row i (f - 1) (by omega)]
      rfl
    rw [filter_true, List.nil_append]
    have e3 : ((List.range (row.length + 1 - (f - 1))).map fun i => rowT (stS row (f - 1) i)) = (cutS row (f - 1)).map rowT := by
      unfold cutS
      rw [List.map_map]
      rfl
    rw [e3]
    refine ⟨by show 3 < 10; decide, ?_⟩
    have el : ((cutS row (f - 1)).map rowT).length = row.length + 2 - f := by rw [cut_len]; omega
    have q : e.rt (.bool (fourB row f a b c ee)) n := q
    have Kf : ¬ condB row f a b c ee → e.rt (.bool false) n := fun hc => by
      unfold fourB at q
      rw [decide_eq_false hc] at q
      exact q
    show cx_5 [some (.v (rowT row)), some (.v (.int ((f : Nat) : Int))), some (.v (.tuple [.int a, .int b, .int c, .int ee])), some (.own (.list ((cutS row (f - 1)).map rowT))), some (.v (.int a)), some (.v (.int b)), some (.v (.int c)), some (.v (.int ee)), none, none] n _
    refine chain_run (l := (cutS row (f - 1)).map rowT) (Cf := e.rt (.bool false) n) (C5 := fun bb => if (!bb) = true then e.rt (.bool false) n else cSq cx_6 cx_7 [some (.v (rowT row)), some (.v (.int ((f : Nat) : Int))), some (.v (.tuple [.int a, .int b, .int c, .int ee])), some (.v (.list ((cutS row (f - 1)).map rowT))), some (.v (.int a)), some (.v (.int b)), some (.v (.int c)), some (.v (.int ee)), none, none] n e) (fun z => Kf fun y => z ⟨y.1, y.2.1, y.2.2.1, y.2.2.2.1⟩) fun g0 g1 g2 g3 => ?_
    rw [el]
    by_cases g4 : ee < ((row.length + 2 - f : Nat) : Int)
    rotate_left
    · rw [decide_eq_false g4]
      exact Kf fun y => g4 y.2.2.2.2
    rw [decide_eq_true g4]
    show cSq cx_6 cx_7 _ _ _
    have hcond : condB row f a b c ee := ⟨g0, g1, g2, g3, g4⟩
    unfold fourB at q
    rw [decide_eq_true hcond, Bool.true_and] at q
    have A : ∀ i : Int, 0 ≤ i → i ≤ ee → atD (.list ((cutS row (f - 1)).map rowT)) (.int i) = some (rowT (stS row (f - 1) i.toNat)) := fun i p1 p2 => cut_at p1 (by omega)
    refine ⟨_, A a g0 (by omega), _, A c (by omega) (by omega), _, neD_rowT (good_st hg _ _) (good_st hg _ _), _, rfl, ?_⟩
    by_cases j1 : stS row (f - 1) a.toNat = stS row (f - 1) c.toNat
    rotate_left
    · rw [decide_eq_false j1] at q ⊢
      exact q
    rw [decide_eq_true j1] at q ⊢
    rw [Bool.true_and] at q
    refine ⟨_, A b (by omega) (by omega), _, A ee (by omega) (by omega), _, neD_rowT (good_st hg _ _) (good_st hg _ _), _, rfl, ?_⟩
    by_cases j2 : stS row (f - 1) b.toNat = stS row (f - 1) ee.toNat
    rotate_left
    · rw [decide_eq_false j2] at q ⊢
      exact q
    rw [decide_eq_true j2] at q ⊢
    rw [Bool.true_and] at q
    obtain ⟨m, hm2⟩ : ∃ m, f = m + 2 := ⟨f - 2, by omega⟩
    have ha : a.toNat + m + 1 < row.length := by omega
    have hc : c.toNat + m + 1 < row.length := by omega
    have ex : f - 1 = m + 1 := by omega
    rw [ex] at q j1
    have nx := st_next ha hc j1
    have B : ∀ (i : Int) (z : Nat), i.toNat + m + 1 = z → 0 ≤ i → i + ((f : Nat) : Int) - 1 = ((z : Nat) : Int) := fun i z p1 p2 => by omega
    refine ⟨_, rfl, _, rfl, .str row[a.toNat + m + 1], ?_, _, rfl, _, rfl, .str row[c.toNat + m + 1], ?_, _, neD_strS (hg _ (List.getElem_mem _)) (hg _ (List.getElem_mem _)), ?_⟩
    · rw [B a _ rfl g0]
      exact atD_row (List.getElem?_eq_getElem ha)
    · rw [B c _ rfl (by omega)]
      exact atD_row (List.getElem?_eq_getElem hc)
    · have e9 : (!decide (stS row (m + 1) (a.toNat + 1) = stS row (m + 1) (c.toNat + 1))) = decide (row[a.toNat + m + 1] ≠ row[c.toNat + m + 1]) := by
        by_cases z : row[a.toNat + m + 1] = row[c.toNat + m + 1]
        · rw [decide_eq_true (nx.mpr z), decide_eq_false (fun y => y z)]
          rfl
        · rw [decide_eq_false (fun y => z (nx.mp y)), decide_eq_true z]
          rfl
      rw [e9] at q
      exact q
end
end RM
namespace RM
open PySem PySem.Spec PyProof.Rows L2 CS RZ
/-! ### rows of four numbers; things that are bent (k68) -/
/-- four numbers below 20 -/
def Qd4 (d : D) : Prop := ∃ a b c e : Int, d = .tuple [.int a, .int b, .int c, .int e] ∧ (0 ≤ a ∧ a < 20) ∧ (0 ≤ b ∧ b < 20) ∧ (0 ≤ c ∧ c < 20) ∧ (0 ≤ e ∧ e < 20)
theorem sm_of {i : Int} (h : -100 ≤ i ∧ i ≤ 100) : SmI i := by
  have e : (2 : Int) ^ 200 = 1606938044258990275541962092341162602522202993782792835301376 := by decide
  unfold SmI
  rw [e]
  omega
theorem Qd4.mt {d : D} (h : Qd4 d) : Mt d := by
  obtain ⟨a, b, c, e, rfl, h1, h2, h3, h4⟩ := h
  refine .tup (fun d hd => ?_) (show (4 : Nat) ≤ 5 by decide)
  simp only [List.mem_cons, List.not_mem_nil, or_false] at hd
  rcases hd with rfl | rfl | rfl | rfl
  · exact .int (sm_of (by omega))
  · exact .int (sm_of (by omega))
  · exact .int (sm_of (by omega))
  · exact .int (sm_of (by omega))
theorem for_inv {cg : CG} {body : CS} {e : EndsD} {n N : Nat} {I : Nat → En → Prop} : ∀ (turns : List D) (j : Nat) (ρ : En), j + turns.length ≤ N → I j ρ →
    (∀ (j : Nat) (ρ : En) (d : D) (e' : EndsD), d ∈ turns → j < N → I j ρ → e'.rt = e.rt → e'.xc = e.xc → (∀ ρ2, I (j + 1) ρ2 → e'.nx ρ2 n) → ∃ ρ1, cg d ρ = some ρ1 ∧ body ρ1 n e') →
    (∀ ρ, I (j + turns.length) ρ → e.nx ρ n) → cForL cg body turns ρ n e
  | [], j, ρ, _, hi, _, q => q ρ hi
  | d :: turns, j, ρ, hN, hi, hs, q => by
    rw [List.length_cons] at hN
    obtain ⟨ρ1, h1, h2⟩ := hs j ρ d { e with nx := fun ρ' n' => cForL cg body turns ρ' n' e, ct := fun ρ' n' => cForL cg body turns ρ' n' e, bk := e.nx } (List.mem_cons_self ..) (by omega) hi rfl rfl fun ρ2 hi2 =>
      for_inv turns (j + 1) ρ2 (by omega) hi2 (fun j ρ d e' hd => hs j ρ d e' (List.mem_cons_of_mem _ hd)) fun ρ h => q ρ (by rw [List.length_cons]; rwa [show j + (turns.length + 1) = j + 1 + turns.length by omega])
    exact ⟨ρ1, h1, h2⟩
theorem range_mem {i : Int} {m : Nat} {d : D} (h : d ∈ rangeD i m) : ∃ z : Int, d = .int z ∧ i ≤ z ∧ z < i + m := by
  unfold rangeD at h
  obtain ⟨k, hk, rfl⟩ := List.mem_map.mp h
  have := List.mem_range.mp hk
  exact ⟨_, rfl, by omega, by omega⟩
theorem rangeD_len (i : Int) (m : Nat) : (rangeD i m).length = m := by unfold rangeD; rw [List.length_map, List.length_range]
abbrev n_fours : List Str := ["_law_many_so", "_law_found", "_law_one", "_law_two", "_law_three", "_law_four"]
def fo_b : CS := cSet 1 (cOp addD (cVar 1) (cLc (cRange2 (cCons (cOp addD (cVar 4) (cC (.int 1))) (cCons (cVar 0) (cNil)))) (stN 5) (cYes) (cTup (cCons (cVar 2) (cCons (cVar 3) (cCons (cVar 4) (cCons (cVar 5) (cNil)))))) [5]))
def fo_c : CS := cFor (cRange2 (cCons (cVar 3) (cCons (cVar 0) (cNil)))) (stN 4) fo_b
def fo_d : CS := cFor (cRange2 (cCons (cOp addD (cVar 2) (cC (.int 1))) (cCons (cVar 0) (cNil)))) (stN 3) fo_c
def cs_fours : CS := cSq (cSet 1 (cLst (cNil))) (cSq (cFor (cRange1 (cCons (cVar 0) (cNil))) (stN 2) fo_d) (cRet (cVar 1)))
def sdFours : SpD := fun ds n k _ => ∃ m : Nat, ds = [.int m] ∧ m ≤ 20 ∧ ∀ L : List D, (∀ d ∈ L, Qd4 d) → L.length ≤ 160000 → k (.list L) n
abbrev vF (m : Nat) (L : List D) (t2 t3 t4 : Option Sl) : En := [some (.v (.int m)), some (.v (.list L)), t2, t3, t4, none]
section
variable {e : EndsD} {n m : Nat}
theorem fo_b_ok {L : List D} {a b c : Int} (hm : m ≤ 20) (hL : ∀ d ∈ L, Qd4 d) (hl : L.length ≤ 200000) (ha : 0 ≤ a ∧ a < 20) (hb : 0 ≤ b ∧ b < 20) (hc : 0 ≤ c ∧ c < 20)
    (q : ∀ L' : List D, (∀ d ∈ L', Qd4 d) → L'.length ≤ L.length + 20 → e.nx (vF m L' (some (.v (.int a))) (some (.v (.int b))) (some (.v (.int c)))) n) : fo_b (vF m L (some (.v (.int a))) (some (.v (.int b))) (some (.v (.int c)))) n e := by
  have h5 : (1000000 : Nat) ≤ lim := by decide
  refine ⟨_, rfl, c + 1, (m : Int), rfl, ⟨by omega, by omega, by omega, by omega⟩, ?_⟩
  obtain ⟨w, hw⟩ : ∃ w, w = (((m : Nat) : Int) - (c + 1)).toNat := ⟨_, rfl⟩
  rw [← hw]
  have hw2 : w ≤ 20 := by omega
  show cLcL _ _ _ _ ((List.range w).map fun i : Nat => PyData.int (c + 1 + ((i : Nat) : Int))) (vF m L (some (.v (.int a))) (some (.v (.int b))) (some (.v (.int c)))) n [] _
  refine map_run (fun i : Nat => PyData.int (c + 1 + ((i : Nat) : Int))) (fun _ => true) (fun i : Nat => PyData.tuple [.int a, .int b, .int c, .int (c + 1 + ((i : Nat) : Int))]) (List.range w) [] (fun i hi => ⟨[some (.v (.int m)), some (.v (.list L)), some (.v (.int a)), some (.v (.int b)), some (.v (.int c)), some (.v (.int (c + 1 + ((i : Nat) : Int))))], rfl, rfl, fun K1 hK => hK, fun K2 hK => ⟨by show 4 ≤ lim; decide, hK⟩⟩) (by rw [List.length_nil, List.length_range]; omega) ?_
  rw [filter_true, List.nil_append]
  have ln : ((List.range w).map fun i : Nat => PyData.tuple [.int a, .int b, .int c, .int (c + 1 + ((i : Nat) : Int))]).length = w := by rw [List.length_map, List.length_range]
  refine ⟨_, if_pos (by rw [ln]; omega), ?_⟩
  refine q _ (fun d hd => ?_) (by rw [List.length_append, ln]; omega)
  rcases List.mem_append.mp hd with hd | hd
  · exact hL d hd
  · obtain ⟨i, hi, rfl⟩ := List.mem_map.mp hd
    have := List.mem_range.mp hi
    exact ⟨a, b, c, _, rfl, ha, hb, hc, by omega, by omega⟩
theorem fo_c_ok {L : List D} {a b : Int} {t4 : Option Sl} (hm : m ≤ 20) (hL : ∀ d ∈ L, Qd4 d) (hl : L.length ≤ 199000) (ha : 0 ≤ a ∧ a < 20) (hb : 0 ≤ b ∧ b < 20)
    (q : ∀ (L' : List D) (t4 : Option Sl), (∀ d ∈ L', Qd4 d) → L'.length ≤ L.length + 400 → e.nx (vF m L' (some (.v (.int a))) (some (.v (.int b))) t4) n) : fo_c (vF m L (some (.v (.int a))) (some (.v (.int b))) t4) n e := by
  refine ⟨b, (m : Int), rfl, ⟨by omega, by omega, by omega, by omega⟩, ?_⟩
  have hr := rangeD_len b (((m : Nat) : Int) - b).toNat
  refine for_inv (N := 20) (I := fun j ρ => ∃ (L' : List D) (t4 : Option Sl), ρ = vF m L' (some (.v (.int a))) (some (.v (.int b))) t4 ∧ (∀ d ∈ L', Qd4 d) ∧ L'.length ≤ L.length + 20 * j) _ 0 _ (by omega) ⟨L, t4, rfl, hL, by omega⟩ (fun j ρ d e' hd hj hi _ _ hn => ?_) fun ρ h => ?_
  · obtain ⟨L', t4', rfl, h1, h2⟩ := hi
    obtain ⟨z, rfl, z1, z2⟩ := range_mem hd
    refine ⟨vF m L' (some (.v (.int a))) (some (.v (.int b))) (some (.v (.int z))), rfl, ?_⟩
    exact fo_b_ok hm h1 (by omega) ha hb ⟨by omega, by omega⟩ fun L2 p1 p2 => hn _ ⟨L2, _, rfl, p1, by omega⟩
  · obtain ⟨L', t4', rfl, h1, h2⟩ := h
    exact q L' t4' h1 (by omega)
theorem fo_d_ok {L : List D} {a : Int} {t3 t4 : Option Sl} (hm : m ≤ 20) (hL : ∀ d ∈ L, Qd4 d) (hl : L.length ≤ 180000) (ha : 0 ≤ a ∧ a < 20)
    (q : ∀ (L' : List D) (t3 t4 : Option Sl), (∀ d ∈ L', Qd4 d) → L'.length ≤ L.length + 8000 → e.nx (vF m L' (some (.v (.int a))) t3 t4) n) : fo_d (vF m L (some (.v (.int a))) t3 t4) n e := by
  refine ⟨_, rfl, a + 1, (m : Int), rfl, ⟨by omega, by omega, by omega, by omega⟩, ?_⟩
  have hr := rangeD_len (a + 1) (((m : Nat) : Int) - (a + 1)).toNat
  refine for_inv (N := 20) (I := fun j ρ => ∃ (L' : List D) (t3 t4 : Option Sl), ρ = vF m L' (some (.v (.int a))) t3 t4 ∧ (∀ d ∈ L', Qd4 d) ∧ L'.length ≤ L.length + 400 * j) _ 0 _ (by omega) ⟨L, t3, t4, rfl, hL, by omega⟩ (fun j ρ d e' hd hj hi _ _ hn => ?_) fun ρ h => ?_
  · obtain ⟨L', t3', t4', rfl, h1, h2⟩ := hi
    obtain ⟨z, rfl, z1, z2⟩ := range_mem hd
    refine ⟨vF m L' (some (.v (.int a))) (some (.v (.int z))) t4', rfl, ?_⟩
    exact fo_c_ok hm h1 (by omega) ha ⟨by omega, by omega⟩ fun L2 t4 p1 p2 => hn _ ⟨L2, _, _, rfl, p1, by omega⟩
  · obtain ⟨L', t3', t4', rfl, h1, h2⟩ := h
    exact q L' t3' t4' h1 (by omega)
theorem himp_fours (ds : List D) (n : Nat) (k : D → Nat → Prop) (ke : Xv → Nat → Prop) (h : sdFours ds n k ke) (he : e.rt = k) : cs_fours (startE n_fours ds) n e := by
  obtain ⟨m, rfl, hm, q⟩ := h
  subst he
  refine ⟨by show 0 ≤ lim; decide, ?_⟩
  refine ⟨(m : Int), rfl, ⟨by omega, by omega⟩, ?_⟩
  have hr := rangeD_len 0 ((m : Nat) : Int).toNat
  show cForL (stN 2) fo_d _ (vF m [] none none none) n _
  refine for_inv (N := 20) (I := fun j ρ => ∃ (L' : List D) (t2 t3 t4 : Option Sl), ρ = vF m L' t2 t3 t4 ∧ (∀ d ∈ L', Qd4 d) ∧ L'.length ≤ 8000 * j) _ 0 _ (by omega) ⟨[], none, none, none, rfl, (fun d hd => absurd hd List.not_mem_nil), by show 0 ≤ _; omega⟩ (fun j ρ d e' hd hj hi _ _ hn => ?_) fun ρ h => ?_
  · obtain ⟨L', t2', t3', t4', rfl, h1, h2⟩ := hi
    obtain ⟨z, rfl, z1, z2⟩ := range_mem hd
    refine ⟨vF m L' (some (.v (.int z))) t3' t4', rfl, ?_⟩
    exact fo_d_ok hm h1 (by omega) ⟨by omega, by omega⟩ fun L2 t3 t4 p1 p2 => hn _ ⟨L2, _, _, _, rfl, p1, by omega⟩
  · obtain ⟨L', t2', t3', t4', rfl, h1, h2⟩ := h
    exact q L' h1 (by omega)
end
/-! bent -/
abbrev n_bent68 : List Str := ["_law_box_here", "_law_mat", "_law_spot", "_law_some", "_law_odd"]
def be_1 : CS := cSet 2 (cCall sdTake (cCons (cVar 0) (cCons (cC (.int 4)) (cNil))))
def be_2 : CS := cSet 3 (cLst (cCons (cC .none) (cCons (cC (.bool true)) (cCons (cC (.bool false)) (cCons (cC (.str "1")) (cCons (cTup (cNil)) (cCons (cNeg (cC (.int 1))) (cCons (cOp powD (cC (.int 10)) (cC (.int 30))) (cNil)))))))))
def be_3 : CS := cSet 4 (cCall sdOf (cCons (cVar 0) (cCons (cOp addD (cVar 3) (cLst (cCons (cOp addD (cOp atD (cVar 1) (cVar 2)) (cC (.int 1))) (cCons (cOp subD (cOp atD (cVar 1) (cVar 2)) (cC (.int 1))) (cCons (cTup (cCons (cOp atD (cVar 1) (cVar 2)) (cNil))) (cNil)))))) (cNil))))
def be_4 : CS := cSet 3 (cLst (cCons (cOp addD (cOp addD (cSl (cVar 1) (cNo) (cPart (cVar 2))) (cTup (cCons (cVar 4) (cNil)))) (cSl (cVar 1) (cPart (cOp addD (cVar 2) (cC (.int 1)))) (cNo))) (cCons (cSl (cVar 1) (cNo) (cPart (cVar 2))) (cCons (cOp addD (cVar 1) (cTup (cCons (cVar 4) (cNil)))) (cNil)))))
def be_5 : CS := cRet (cCall sdOf (cCons (cVar 0) (cCons (cOp addD (cVar 3) (cLst (cCons (cCF gList' (cCons (cVar 1) (cNil))) (cCons (cTup (cCons (cVar 1) (cNil))) (cCons (cVar 4) (cNil)))))) (cNil))))
def cs_bent68 : CS := cSq be_1 (cSq be_2 (cSq be_3 (cSq be_4 (be_5))))
def sdBent68 : SpD := fun ds n k _ => ∃ q, ds = [boxD, q] ∧ Qd4 q ∧ n ≤ 800000 ∧ ∀ (d : D) (n' : Nat), Mt d → n' ≤ n + 3 → k d n'
theorem me_odd (v : Int) (h : 0 ≤ v ∧ v < 20) : ∀ d ∈ [PyData.none, .bool true, .bool false, .str "1", .tuple [], .int (-1), .int (10 ^ 30)] ++ [PyData.int (v + 1), .int (v - 1), .tuple [.int v]], Me d := by
  intro d hd
  simp only [List.cons_append, List.nil_append, List.mem_cons, List.not_mem_nil, or_false] at hd
  rcases hd with rfl | rfl | rfl | rfl | rfl | rfl | rfl | rfl | rfl | rfl
  · exact .non
  · exact .bl _
  · exact .bl _
  · exact .str (by decide +kernel : (PyData.str ("1" : Str)).canLay0 = true) (by decide)
  · exact .tup (is := []) (fun i hi => absurd hi List.not_mem_nil) (by decide)
  · exact .int (sm_of (by omega))
  · exact .int (by unfold SmI; decide)
  · exact .int (sm_of (by omega))
  · exact .int (sm_of (by omega))
  · exact .tup (is := [v]) (fun i hi => by rw [List.mem_singleton.mp hi]; exact sm_of (by omega)) (show (1 : Nat) ≤ 5 by decide)
section
variable {e : EndsD} {n : Nat}
theorem catT_fit {a b : List D} (h : decide (a.length + b.length ≤ lim) = true) : addD (.tuple a) (.tuple b) = some (.tuple (a ++ b)) := if_pos (of_decide_eq_true h)
theorem bent_at {xs : List D} {r v : Int} {pre post : List D} (hx : Qd4 (.tuple xs)) (h1 : atD (.tuple xs) (.int r) = some (.int v)) (hv : 0 ≤ v ∧ v < 20) (h2 : sliceD (.tuple xs) none (some r) = some (.tuple pre)) (h3 : sliceD (.tuple xs) (some (r + 1)) none = some (.tuple post))
    (m1 : ∀ d ∈ pre, d ∈ xs) (m2 : ∀ d ∈ post, d ∈ xs) (hl : pre.length + post.length = 3) (hn : n ≤ 800001) {t3 t4 : Option Sl}
    (q : ∀ (d : D) (n' : Nat), Mt d → n' ≤ n + 2 → e.rt d n') : cSq be_2 (cSq be_3 (cSq be_4 be_5)) [some (.v boxD), some (.v (.tuple xs)), some (.v (.int r)), t3, t4] n e := by
  have h5 : (1000000 : Nat) ≤ lim := by decide
  obtain ⟨a, b, c, ee, hxs, k1, k2, k3, k4⟩ := hx
  cases hxs
  have mx : ∀ d ∈ [PyData.int a, .int b, .int c, .int ee], Me d := fun d hd => by
    simp only [List.mem_cons, List.not_mem_nil, or_false] at hd
    rcases hd with rfl | rfl | rfl | rfl
    · exact .int (sm_of (by omega))
    · exact .int (sm_of (by omega))
    · exact .int (sm_of (by omega))
    · exact .int (sm_of (by omega))
  refine ⟨by show 0 ≤ lim; decide, 1, rfl, .int (10 ^ 30), rfl, by show 7 ≤ lim; decide, ?_⟩
  refine ⟨_, h1, _, rfl, _, h1, _, rfl, _, h1, by show 1 ≤ lim; decide, by show 3 ≤ lim; decide, _, cat_fit rfl, ?_⟩
  refine ⟨_, _, rfl, rfl, by omega, (show (0 : Nat) < 10 by decide), (show (10 : Nat) < 1000000 by decide), fun odd hodd => ?_⟩
  have ho := me_odd v hv odd hodd
  refine ⟨r, rfl, .tuple pre, h2, by show 1 ≤ lim; decide, .tuple (pre ++ [odd]), if_pos (by show pre.length + 1 ≤ lim; omega), _, rfl, r + 1, rfl, .tuple post, h3, .tuple (pre ++ [odd] ++ post), if_pos (by rw [List.length_append]; show pre.length + 1 + post.length ≤ lim; omega), r, rfl, .tuple pre, h2, by show 1 ≤ lim; decide, .tuple ([PyData.int a, .int b, .int c, .int ee] ++ [odd]), catT_fit rfl, by show 3 ≤ lim; decide, ?_⟩
  refine ⟨_, .inl ⟨_, rfl, rfl⟩, by show 1 ≤ lim; decide, by show 3 ≤ lim; decide, _, cat_fit rfl, ?_⟩
  refine ⟨_, _, rfl, rfl, by omega, (show (0 : Nat) < 6 by decide), (show (6 : Nat) < 1000000 by decide), fun d hd => q d _ ?_ (by omega)⟩
  simp only [List.cons_append, List.nil_append, List.mem_cons, List.not_mem_nil, or_false] at hd
  rcases hd with rfl | rfl | rfl | rfl | rfl | rfl
  · refine .tup (fun d hd => ?_) (by simp only [List.length_append, List.length_cons, List.length_nil]; omega)
    rcases List.mem_append.mp hd with hd | hd
    · rcases List.mem_append.mp hd with hd | hd
      · exact mx d (m1 d hd)
      · rw [List.mem_singleton.mp hd]
        exact ho
    · exact mx d (m2 d hd)
  · exact .tup (fun d hd => mx d (m1 d hd)) (by omega)
  · refine .tup (fun d hd => ?_) (show (5 : Nat) ≤ 5 by decide)
    rcases List.mem_append.mp (show d ∈ [PyData.int a, .int b, .int c, .int ee] ++ [odd] from hd) with hd | hd
    · exact mx d hd
    · rw [List.mem_singleton.mp hd]
      exact ho
  · exact .lst mx (show (4 : Nat) ≤ 5 by decide)
  · refine .tup (fun d hd => ?_) (show (1 : Nat) ≤ 5 by decide)
    rw [List.mem_singleton.mp hd]
    refine Me.tup (is := [a, b, c, ee]) (fun i hi => ?_) (show (4 : Nat) ≤ 5 by decide)
    simp only [List.mem_cons, List.not_mem_nil, or_false] at hi
    rcases hi with rfl | rfl | rfl | rfl
    · exact sm_of (by omega)
    · exact sm_of (by omega)
    · exact sm_of (by omega)
    · exact sm_of (by omega)
  · exact .me ho
theorem himp_bent68 (ds : List D) (n : Nat) (k : D → Nat → Prop) (ke : Xv → Nat → Prop) (h : sdBent68 ds n k ke) (he : e.rt = k) : cs_bent68 (startE n_bent68 ds) n e := by
  obtain ⟨x, rfl, hx, hn, q⟩ := h
  subst he
  refine ⟨4, rfl, by omega, by decide, by decide, fun r r0 r1 => ?_⟩
  obtain ⟨a, b, c, ee, rfl, k1, k2, k3, k4⟩ := id hx
  have hr : r = 0 ∨ r = 1 ∨ r = 2 ∨ r = 3 := by omega
  rcases hr with rfl | rfl | rfl | rfl
  · exact bent_at (v := a) (pre := []) (post := [.int b, .int c, .int ee]) hx rfl k1 rfl rfl (by simp) (by simp) rfl (by omega) fun d n' h1 h2 => q d n' h1 (by omega)
  · exact bent_at (v := b) (pre := [.int a]) (post := [.int c, .int ee]) hx rfl k2 rfl rfl (by simp) (by simp) rfl (by omega) fun d n' h1 h2 => q d n' h1 (by omega)
  · exact bent_at (v := c) (pre := [.int a, .int b]) (post := [.int ee]) hx rfl k3 rfl rfl (by simp) (by simp) rfl (by omega) fun d n' h1 h2 => q d n' h1 (by omega)
  · exact bent_at (v := ee) (pre := [.int a, .int b, .int c]) (post := []) hx rfl k4 rfl rfl (by simp) (by simp) rfl (by omega) fun d n' h1 h2 => q d n' h1 (by omega)
end
end RM
namespace RM
open PySem PySem.Spec PyProof.Rows L2 CS RZ
/-! ### what is shown of such things (k68) -/
theorem shownAll_eq : ∀ l : List PyData, PyData.shownAll l = l.map PyData.shown
  | [] => rfl
  | d :: l => by
    show PyData.shown d :: PyData.shownAll l = _
    rw [shownAll_eq l]
    rfl
theorem piled_le (B : Nat) : ∀ l : List PyData, (∀ e ∈ l, e.shown.length ≤ B) → piled (l.map PyData.shown) ≤ l.length * (B + 2)
  | [], _ => Nat.zero_le _
  | d :: l, h => by
    have ih := piled_le B l fun e he => h e (List.mem_cons_of_mem _ he)
    have h1 := h d (List.mem_cons_self ..)
    rw [List.map_cons, piled_cons, List.length_cons, Nat.succ_mul]
    omega
theorem list_text (ts : List Str) : (listText ts).length ≤ piled ts + 2 := by
  unfold listText
  rw [strLen_append]
  cases ts with
  | nil => decide +kernel
  | cons t r =>
    have h : (textFrom 0 "[" (t :: r)).length = ("[" ++ ("" : Str) ++ t : Str).length + piled r := textFrom_length_pos r 1 _ (Nat.succ_pos 0)
    rw [h, strLen_append, strLen_append, piled_cons]
    have e1 : ("[" : Str).length = 1 := by decide +kernel
    have e2 : ("" : Str).length = 0 := by decide +kernel
    have e3 : ("]" : Str).length = 1 := by decide +kernel
    omega
/-- shown, of no more than so many signs and so deep -/
structure Shw (B k : Nat) (d : D) : Prop where
  pl : plain d = true
  sh : d.showable = true
  nd : d.hasDict = false
  len : d.shown.length ≤ B
  dep : d.depth ≤ k
theorem sw_all {B k : Nat} : ∀ {l : List D}, (∀ d ∈ l, Shw B k d) → plains l = true ∧ PyData.showableAll l = true ∧ PyData.hasDictAll l = false ∧ PyData.depthAll l ≤ k
  | [], _ => ⟨rfl, rfl, rfl, Nat.zero_le _⟩
  | d :: l, h => by
    have h0 := h d (List.mem_cons_self ..)
    obtain ⟨e1, e2, e3, e4⟩ := sw_all fun y hy => h y (List.mem_cons_of_mem _ hy)
    refine ⟨?_, ?_, ?_, ?_⟩
    · show (plain d && plains l) = true
      rw [h0.pl, e1]
      rfl
    · show (PyData.showable d && PyData.showableAll l) = true
      rw [h0.sh, e2]
      rfl
    · show (PyData.hasDict d || PyData.hasDictAll l) = false
      rw [h0.nd, e3]
      rfl
    · show max (PyData.depth d) (PyData.depthAll l) ≤ k
      exact Nat.max_le.mpr ⟨h0.dep, e4⟩
theorem sw_tup {B k c : Nat} {l : List D} (h : ∀ d ∈ l, Shw B k d) (hl : l.length * (B + 2) + 2 ≤ c) : Shw c (k + 1) (.tuple l) := by
  obtain ⟨e1, e2, e3, e4⟩ := sw_all h
  have a3 := piled_le B l fun e x => (h e x).len
  have a5 := fmt_text (PyData.shownAll l)
  rw [shownAll_eq] at a5
  refine ⟨e1, e2, e3, ?_, Nat.succ_le_succ e4⟩
  show (tupleText (PyData.shownAll l)).length ≤ _
  rw [shownAll_eq]
  omega
theorem sw_lst {B k c : Nat} {l : List D} (h : ∀ d ∈ l, Shw B k d) (hl : l.length * (B + 2) + 2 ≤ c) : Shw c (k + 1) (.list l) := by
  obtain ⟨e1, e2, e3, e4⟩ := sw_all h
  have a3 := piled_le B l fun e x => (h e x).len
  have a5 := list_text (PyData.shownAll l)
  rw [shownAll_eq] at a5
  refine ⟨e1, e2, e3, ?_, Nat.succ_le_succ e4⟩
  show (listText (PyData.shownAll l)).length ≤ _
  rw [shownAll_eq]
  omega
theorem sm_log {i : Int} (h : SmI i) : i.natAbs.log2 < 1920 := by
  have e : (2 : Int) ^ 200 = ((2 ^ 200 : Nat) : Int) := by decide
  unfold SmI at h
  rw [e] at h
  by_cases h0 : i.natAbs = 0
  · rw [h0]
    decide
  · have h1 : i.natAbs < 2 ^ 200 := by omega
    exact Nat.lt_trans ((Nat.log2_lt h0).mpr h1) (by decide)
theorem sw_int {i : Int} (h : SmI i) : Shw 2000 0 (.int i) := ⟨rfl, decide_eq_true (sm_log h), rfl, by
  have := numS_len (sm_log h)
  show (numS i).length ≤ _
  omega, Nat.le_refl _⟩
theorem good_cps {z : Str} (h : GoodS z) : ∀ c ∈ z.cps.toList, c < 16 ^ 8 := fun c hc => by
  have := good_iff.mp h c hc
  omega
theorem text_len {z : Str} (h : GoodS z) (hl : z.length ≤ 5) : (reprText z).length ≤ 60 := by
  have := StrLaws.reprText_len z (good_cps h)
  omega
theorem Me.sw {d : D} (h : Me d) : Shw 12000 1 d := by
  cases h with
  | int h =>
    have := sw_int h
    exact ⟨this.pl, this.sh, this.nd, Nat.le_trans this.len (by decide), Nat.zero_le _⟩
  | non => exact ⟨rfl, rfl, rfl, by decide +kernel, Nat.zero_le _⟩
  | bl b => exact ⟨rfl, rfl, rfl, by cases b <;> decide +kernel, Nat.zero_le _⟩
  | str g hl => exact ⟨rfl, rfl, rfl, by
      have := text_len g hl
      show (reprText _).length ≤ _
      omega, Nat.zero_le _⟩
  | tup h hl =>
    refine sw_tup (B := 2000) (fun d hd => ?_) (by rw [List.length_map]; omega)
    obtain ⟨i, hi, rfl⟩ := List.mem_map.mp hd
    exact sw_int (h i hi)
theorem big_line : 100000 ≤ sizeLine := by decide
theorem Me.repr {d : D} (h : Me d) : ∃ z, reprD d = some z := by
  have b := big_line
  cases h with
  | int h => exact ⟨_, if_pos (sm_log h)⟩
  | non => exact ⟨_, rfl⟩
  | bl b => exact ⟨_, rfl⟩
  | str g hl => exact ⟨_, if_pos (by have := text_len g hl; omega)⟩
  | @tup is h hl =>
    have s := Me.sw (.tup h hl)
    exact ⟨_, if_pos ⟨s.pl, s.sh, s.nd, by have := s.len; omega, by have := s.dep; omega⟩⟩
theorem Mt.repr {d : D} (h : Mt d) : ∃ z, reprD d = some z := by
  have b := big_line
  cases h with
  | @tup ds h hl =>
    have s := sw_tup (c := 62000) (fun d hd => (h d hd).sw) (by omega)
    exact ⟨_, if_pos ⟨s.pl, s.sh, s.nd, by have := s.len; omega, by have := s.dep; omega⟩⟩
  | @lst ds h hl =>
    have s := sw_lst (c := 62000) (fun d hd => (h d hd).sw) (by omega)
    exact ⟨_, if_pos ⟨s.pl, s.sh, s.nd, by have := s.len; omega, by have := s.dep; omega⟩⟩
  | me h => exact h.repr
end RM
namespace RM
open PySem PySem.Spec PyProof.Rows L2 CS RZ
/-! ### k68's turn -/
def r68_1 : CS := cSet 1 (cCall sdWalkB (cCons (cVar 0) (cCons (cCall sdTags (cCons (cVar 0) (cCons (cOp addD (cC (.int 2)) (cCall sdTake (cCons (cVar 0) (cCons (cC (.int 3)) (cNil))))) (cNil)))) (cCons (cC (.int 7)) (cNil)))))
def r68_2 : CS := cSet 2 (cOp addD (cC (.int 2)) (cCall sdTake (cCons (cVar 0) (cCons (cCB (fun ds z => gMin2 ds z ∨ gMin1 ds z) (cCons (cC (.int 2)) (cCons (cCB gLen (cCons (cVar 1) (cNil))) (cNil)))) (cNil)))))
def r68_3 : CS := cSet 3 (cCall (sdLists 3) (cCons (cVar 1) (cNil)))
def r68_4 : CS := cSet 4 (cOp addD (cCall sdFours (cCons (cOp addD (cOp subD (cCB gLen (cCons (cVar 1) (cNil))) (cVar 2)) (cC (.int 2))) (cNil))) (cLst (cCons (cTup (cCons (cC (.int 0)) (cCons (cC (.int 1)) (cCons (cC (.int 1)) (cCons (cC (.int 2)) (cNil)))))) (cNil))))
def r68_b : CS := cSq (cSet 6 (cRepr (cVar 5))) (cSq (cSet 7 (cCall sdCrosses (cCons (cVar 1) (cCons (cVar 2) (cCons (cVar 5) (cNil)))))) (cIfS (cOrT (cNotT (cB (cCall sdSame (cCons (cCall sdIsCross (cCons (cVar 3) (cCons (cVar 2) (cCons (cVar 5) (cNil))))) (cCons (cVar 7) (cNil)))))) (cB (cOp neSt (cRepr (cVar 5)) (cVar 6)))) (cRet (cC (.bool false))) (cNext)))
def r68_5 : CS := cFor (cSeq (cOp addD (cVar 4) (cLc (cRange1 (cCons (cC (.int 8)) (cNil))) (stN 8) (cYes) (cCall sdBent68 (cCons (cVar 0) (cCons (cCall sdOf (cCons (cVar 0) (cCons (cVar 4) (cNil)))) (cNil)))) [8]))) (stN 5) r68_b
def r68_6 : CS := cRet (cOp eqD (cVar 3) (cCall (sdLists 3) (cCons (cVar 1) (cNil))))
def cs_right68 : CS := cSq r68_1 (cSq r68_2 (cSq r68_3 (cSq r68_4 (cSq r68_5 (r68_6)))))
abbrev n_right68 : List Str := ["_law_box_here", "_law_row_so", "_law_far", "_law_soft", "_law_rising", "_law_mat", "_law_was", "_law_due", "_law_lap"]
/-- what is drawn -/
structure D68 (row : List Str) (f : Nat) : Prop where
  gd : ∀ y ∈ row, GoodS y
  ne : row ≠ []
  hl : row.length ≤ 8
  f2 : 2 ≤ f
  fl : f ≤ row.length + 1
abbrev v68 (row : List Str) (f : Nat) (L : List D) (t5 t6 t7 : Option Sl) : En := [some (.v boxD), some (.v (rowT row)), some (.v (.int f)), some (.v (.list (strD row))), some (.v (.list L)), t5, t6, t7, none]
theorem lists_strD : ∀ row : List Str, listsDs (strD row) = strD row
  | [] => rfl
  | s :: row => by
    show listsD (.str s) :: listsDs (strD row) = _
    rw [lists_strD row]
    rfl
theorem lists_row (row : List Str) : listsD (rowT row) = .list (strD row) := by
  show PyData.list (listsDs (strD row)) = _
  rw [lists_strD]
theorem catL {a b : List D} (h : a.length + b.length ≤ lim) : addD (.list a) (.list b) = some (.list (a ++ b)) := if_pos h
section
variable {e : EndsD} {n : Nat} {row : List Str} {f : Nat} {L : List D} {t5 t6 t7 : Option Sl}
theorem r68_b_ok {d : D} (W : D68 row f) (hd : Mt d) (q : ∀ t6 t7, e.nx (v68 row f L (some (.v d)) t6 t7) n) : r68_b (v68 row f L (some (.v d)) t6 t7) n e := by
  obtain ⟨z, hz⟩ := hd.repr
  have hl := W.hl
  refine ⟨z, hz, ?_⟩
  refine ⟨row, f, d, rfl, W.gd, by omega, W.f2, W.fl, hd, ?_⟩
  refine ⟨.list (strD row), row, f, d, rfl, rfl, W.gd, by omega, W.f2, W.fl, hd, ?_⟩
  refine ⟨_, rfl, trivial, true, rfl, ?_⟩
  refine ⟨z, hz, _, rfl, false, ?_, q _ _⟩
  rw [decide_eq_true rfl]
  rfl
theorem r68_loop (W : D68 row f) : ∀ (ms : List D), (∀ d ∈ ms, Mt d) → ∀ t5 t6 t7, (∀ t5 t6 t7, e.nx (v68 row f L t5 t6 t7) n) → cForL (stN 5) r68_b ms (v68 row f L t5 t6 t7) n e
  | [], _, _, _, _, q => q _ _ _
  | d :: ms, h, t5, t6, t7, q => by
    refine ⟨v68 row f L (some (.v d)) t6 t7, rfl, ?_⟩
    refine r68_b_ok W (h d (List.mem_cons_self ..)) fun t6 t7 => ?_
    exact r68_loop W ms (fun x hx => h x (List.mem_cons_of_mem _ hx)) _ _ _ q
/-- the bent ones -/
theorem bents_ok (hL : ∀ d ∈ L, Qd4 d) (h0 : 0 < L.length) (hl : L.length ≤ 200000) {k : List D → En → Nat → Prop} : ∀ (turns : List D) (acc : List D) (n : Nat), n + 4 * turns.length ≤ 700000 → acc.length + turns.length ≤ 100 → (∀ d ∈ acc, Mt d) →
    (∀ (ms : List D) (n' : Nat), (∀ d ∈ ms, Mt d) → ms.length = acc.length + turns.length → n' ≤ n + 4 * turns.length → k ms (v68 row f L t5 t6 t7) n') →
    cLcL (stN 8) cYes (cCall sdBent68 (cCons (cVar 0) (cCons (cCall sdOf (cCons (cVar 0) (cCons (cVar 4) (cNil)))) (cNil)))) [8] turns (v68 row f L t5 t6 t7) n acc k
  | [], acc, n, _, _, ha, q => q acc n ha rfl (by omega)
  | d :: turns, acc, n, hn, hc, ha, q => by
    rw [List.length_cons] at hn hc q
    have h5 : (1000000 : Nat) ≤ lim := by decide
    refine lc_yes (ρ1 := [some (.v boxD), some (.v (rowT row)), some (.v (.int f)), some (.v (.list (strD row))), some (.v (.list L)), t5, t6, t7, some (.v d)]) rfl ?_
    refine ⟨.list L, L, rfl, rfl, by omega, h0, by omega, fun x hx => ?_⟩
    refine ⟨x, rfl, hL x hx, by omega, fun y n' hy hn' => ?_⟩
    refine ⟨by omega, ?_⟩
    refine bents_ok hL h0 hl turns (acc ++ [y]) n' (by omega) (by rw [List.length_append, List.length_singleton]; omega) (fun z hz => ?_) fun ms n2 h1 h2 h3 => q ms n2 h1 (by rw [h2, List.length_append, List.length_singleton]; omega) (by omega)
    rcases List.mem_append.mp hz with hz | hz
    · exact ha z hz
    · rw [List.mem_singleton.mp hz]
      exact hy
theorem himp_right68 (ds : List D) (n : Nat) (k : D → Nat → Prop) (ke : Xv → Nat → Prop) (h : sdRightN 500000 3000 ds n k ke) (he : e.rt = k) : cs_right68 (startE n_right68 ds) n e := by
  obtain ⟨rfl, hn, q⟩ := h
  subst he
  have h5 : (1000000 : Nat) ≤ lim := by decide
  refine ⟨3, rfl, by omega, by decide, by decide, fun r r0 r1 => ⟨.int (2 + r), rfl, 2 + r, rfl, by omega, by omega, by omega, fun ss n1 h1 h2 h3 h4 => ⟨ss, 7, rfl, h2, by omega, by omega, fun s hs => tag_good s (h3 s hs), by omega, by decide, by decide, fun a z row n2 w hl hn2 => ?_⟩⟩⟩
  have e9 : (7 : Int).toNat = 7 := rfl
  have hne : row ≠ [] := by
    obtain ⟨p, hp⟩ := w.hd
    rw [hp]
    exact List.cons_ne_nil _ _
  have hpos : 0 < row.length := List.length_pos_iff.mpr hne
  have hll := len_strD row
  -- how far
  refine ⟨_, ⟨rowT row, _, rfl, rfl, rfl⟩, .int (if (((strD row).length : Nat) : Int) < 2 then (((strD row).length : Nat) : Int) else 2), .inl ⟨2, (((strD row).length : Nat) : Int), rfl, ?_⟩, ?_⟩
  · rfl
  obtain ⟨mm, hmm⟩ : ∃ mm : Int, mm = (if (((strD row).length : Nat) : Int) < 2 then (((strD row).length : Nat) : Int) else 2) := ⟨_, rfl⟩
  rw [← hmm]
  have hm1 : 0 < mm ∧ mm ≤ 2 ∧ mm ≤ row.length := by
    rw [hmm, hll]
    split <;> omega
  refine ⟨mm, rfl, by omega, by omega, by omega, fun r r0 r1 => ?_⟩
  obtain ⟨f, hf⟩ : ∃ f : Nat, (2 : Int) + r = (f : Int) := ⟨(2 + r).toNat, by omega⟩
  refine ⟨.int (2 + r), rfl, ?_⟩
  rw [hf]
  have W : D68 row f := ⟨fun y hy => tag_good y (h3 y (w.ins y hy)), hne, by omega, by omega, by omega⟩
  -- lists
  refine ⟨rowT row, rfl, okS_row 1 row (by omega), ?_⟩
  rw [lists_row]
  -- fours
  refine ⟨_, ⟨rowT row, _, rfl, rfl, rfl⟩, _, rfl, _, rfl, ?_⟩
  refine ⟨row.length + 2 - f, ?_, by omega, fun L hL hLl => ?_⟩
  · have : ((((strD row).length : Nat) : Int) - ((f : Nat) : Int)) + 2 = ((row.length + 2 - f : Nat) : Int) := by rw [hll]; omega
    rw [this]
  refine ⟨by show 4 ≤ lim; decide, by show 1 ≤ lim; decide, .list (L ++ [PyData.tuple [.int 0, .int 1, .int 1, .int 2]]), catL (by show L.length + 1 ≤ lim; omega), ?_⟩
  obtain ⟨R, hR⟩ : ∃ R, R = L ++ [PyData.tuple [.int 0, .int 1, .int 1, .int 2]] := ⟨_, rfl⟩
  rw [← hR]
  have hR1 : ∀ d ∈ R, Qd4 d := fun d hd => by
    rw [hR] at hd
    rcases List.mem_append.mp hd with hd | hd
    · exact hL d hd
    · rw [List.mem_singleton.mp hd]
      exact ⟨0, 1, 1, 2, rfl, by omega, by omega, by omega, by omega⟩
  have hR2 : 0 < R.length ∧ R.length ≤ 160001 := by
    rw [hR, List.length_append, List.length_singleton]
    omega
  -- the loop
  refine ⟨8, rfl, ⟨by decide, by decide⟩, ?_⟩
  show cLcL _ _ _ _ (rangeD 0 (8 : Int).toNat) (v68 row f R none none none) _ [] _
  have e8 : (rangeD 0 (8 : Int).toNat).length = 8 := rfl
  refine bents_ok hR1 hR2.1 (by omega) _ [] _ (by rw [e8]; omega) (by rw [e8]; decide) (fun d hd => absurd hd List.not_mem_nil) fun ms n3 p1 p2 p3 => ?_
  rw [e8] at p2 p3
  refine ⟨.list (R ++ ms), catL (by rw [p2]; show R.length + (0 + 8) ≤ lim; omega), R ++ ms, rfl, ?_⟩
  refine r68_loop W _ (fun d hd => ?_) _ _ _ fun t5 t6 t7 => ?_
  · rcases List.mem_append.mp hd with hd | hd
    · exact (hR1 d hd).mt
    · exact p1 d hd
  refine ⟨rowT row, rfl, okS_row 1 row (by omega), ?_⟩
  rw [lists_row]
  exact ⟨.bool true, eqD_refl (OkN.strsL W.gd) (by decide), q n3 (by omega)⟩
end
end RM
namespace RM
open PySem PySem.Spec PyProof.Rows L2 CS RZ
/-! ### by hand (k68) -/
def smB : D → Bool
  | .int i => decide (-100 ≤ i ∧ i ≤ 100)
  | _ => false
def meB : D → Bool
  | .int i => decide (-100 ≤ i ∧ i ≤ 100)
  | .none => true
  | .bool _ => true
  | .str z => (PyData.str z).canLay0 && decide (z.length ≤ 5)
  | .tuple ds => ds.all smB && decide (ds.length ≤ 5)
  | _ => false
def mtC : D → Bool
  | .tuple ds => ds.all meB && decide (ds.length ≤ 5)
  | .list ds => ds.all meB && decide (ds.length ≤ 5)
  | d => meB d
theorem sm_ints : ∀ {ds : List D}, ds.all smB = true → ∃ is : List Int, ds = is.map PyData.int ∧ ∀ i ∈ is, SmI i
  | [], _ => ⟨[], rfl, fun i hi => absurd hi List.not_mem_nil⟩
  | d :: ds, h => by
    rw [List.all_cons, Bool.and_eq_true] at h
    obtain ⟨is, h1, h2⟩ := sm_ints h.2
    obtain ⟨i, rfl, hi⟩ : ∃ i, d = .int i ∧ SmI i := by
      have := h.1
      unfold smB at this
      split at this
      · exact ⟨_, rfl, sm_of (of_decide_eq_true this)⟩
      · cases this
    refine ⟨i :: is, by rw [h1]; rfl, fun j hj => ?_⟩
    rcases List.mem_cons.mp hj with rfl | hj
    · exact hi
    · exact h2 j hj
theorem meB_ok {d : D} (h : meB d = true) : Me d := by
  cases d with
  | int i => exact .int (sm_of (of_decide_eq_true h))
  | none => exact .non
  | bool b => exact .bl b
  | str z =>
    have h : ((PyData.str z).canLay0 && decide (z.length ≤ 5)) = true := h
    rw [Bool.and_eq_true] at h
    exact .str h.1 (of_decide_eq_true h.2)
  | tuple ds =>
    have h : (ds.all smB && decide (ds.length ≤ 5)) = true := h
    rw [Bool.and_eq_true] at h
    obtain ⟨is, rfl, h1⟩ := sm_ints h.1
    have := of_decide_eq_true h.2
    rw [List.length_map] at this
    exact .tup h1 this
  | list ds => cases h
  | dict ds => cases h
theorem mtC_ok {d : D} (h : mtC d = true) : Mt d := by
  cases d with
  | tuple ds =>
    have h : (ds.all meB && decide (ds.length ≤ 5)) = true := h
    rw [Bool.and_eq_true] at h
    exact .tup (fun x hx => meB_ok (List.all_eq_true.mp h.1 x hx)) (of_decide_eq_true h.2)
  | list ds =>
    have h : (ds.all meB && decide (ds.length ≤ 5)) = true := h
    rw [Bool.and_eq_true] at h
    exact .lst (fun x hx => meB_ok (List.all_eq_true.mp h.1 x hx)) (of_decide_eq_true h.2)
  | int i => exact .me (meB_ok h)
  | none => exact .me (meB_ok h)
  | bool b => exact .me (meB_ok h)
  | str z => exact .me (meB_ok h)
  | dict ds => cases h
abbrev n_by_hand68 : List Str := ["_law_some", "_law_got", "_law_due", "_law_trip", "_law_far", "_law_own"]
def h68_1 : CS := cAsg (stT (stCons (stN 3) (stCons (stN 4) (stNil)))) (cTup (cCons (cTup (cCons (cC (.str "a")) (cCons (cC (.str "b")) (cCons (cC (.str "a")) (cCons (cC (.str "c")) (cCons (cC (.str "a")) (cNil))))))) (cCons (cTup (cCons (cC (.str "a")) (cCons (cC (.str "b")) (cCons (cC (.str "c")) (cCons (cC (.str "a")) (cCons (cC (.str "b")) (cCons (cC (.str "d")) (cCons (cC (.str "a")) (cCons (cC (.str "b")) (cCons (cC (.str "e")) (cNil))))))))))) (cNil))))
def h68_2 : CS := cSet 0 (cLst (cCons (cTup (cCons (cC (.int 0)) (cCons (cC (.int 2)) (cCons (cC (.int 2)) (cCons (cC (.int 4)) (cNil)))))) (cCons (cLst (cCons (cC (.int 0)) (cCons (cC (.int 2)) (cCons (cC (.int 2)) (cCons (cC (.int 4)) (cNil)))))) (cCons (cTup (cCons (cC (.int 0)) (cCons (cC (.int 2)) (cCons (cC (.int 2)) (cNil))))) (cCons (cTup (cCons (cC (.int 0)) (cCons (cC (.int 2)) (cCons (cC (.int 2)) (cCons (cC (.int 4)) (cCons (cC (.int 4)) (cNil))))))) (cCons (cTup (cCons (cC (.int 0)) (cCons (cC (.int 1)) (cCons (cC (.int 2)) (cCons (cC (.int 4)) (cNil)))))) (cCons (cTup (cCons (cC (.int 0)) (cCons (cC (.int 2)) (cCons (cC (.int 4)) (cCons (cC (.int 4)) (cNil)))))) (cNil))))))))
def h68_3 : CS := cSet 0 (cOp addD (cVar 0) (cLst (cCons (cTup (cCons (cC (.int 2)) (cCons (cC (.int 2)) (cCons (cC (.int 2)) (cCons (cC (.int 4)) (cNil)))))) (cCons (cC .none) (cCons (cC (.int 5)) (cCons (cC (.str "0224")) (cNil)))))))
def h68_4 : CS := cSet 0 (cOp addD (cVar 0) (cLst (cCons (cTup (cCons (cC (.bool false)) (cCons (cC (.int 2)) (cCons (cC (.int 2)) (cCons (cC (.int 4)) (cNil)))))) (cCons (cTup (cCons (cC (.int 0)) (cCons (cC (.int 2)) (cCons (cC (.int 2)) (cCons (cC (.int 5)) (cNil)))))) (cCons (cTup (cCons (cC (.int 0)) (cCons (cC (.int 2)) (cCons (cC (.int 2)) (cCons (cNeg (cC (.int 1))) (cNil)))))) (cCons (cTup (cCons (cTup (cCons (cC (.int 0)) (cCons (cC (.int 2)) (cCons (cC (.int 2)) (cCons (cC (.int 4)) (cNil)))))) (cNil))) (cCons (cTup (cNil)) (cNil))))))))
def h68_5 : CS := cSet 0 (cOp addD (cVar 0) (cLst (cCons (cTup (cCons (cC (.str "0")) (cCons (cC (.int 2)) (cCons (cC (.int 2)) (cCons (cC (.int 4)) (cNil)))))) (cCons (cTup (cCons (cC (.int 0)) (cCons (cC (.int 0)) (cCons (cC (.int 2)) (cCons (cC (.int 4)) (cNil)))))) (cNil)))))
def h68_6 : CS := cOwn 1 (cLc (cSeq (cVar 0)) (stN 5) (cYes) (cCall sdIsCross (cCons (cVar 3) (cCons (cC (.int 2)) (cCons (cVar 5) (cNil))))) [5])
def h68_7 : CS := cSet 2 (cOp addD (cLst (cCons (cC (.bool true)) (cNil))) (cOp repD (cLst (cCons (cC (.bool false)) (cNil))) (cC (.int 16))))
def h68_8 : CS := cSet 1 (cOp addD (cVar 1) (cLst (cCons (cCall sdIsCross (cCons (cVar 4) (cCons (cC (.int 3)) (cCons (cTup (cCons (cC (.int 0)) (cCons (cC (.int 3)) (cCons (cC (.int 3)) (cCons (cC (.int 6)) (cNil)))))) (cNil))))) (cNil))))
def h68_9 : CS := cSet 1 (cOp addD (cVar 1) (cLst (cCons (cCallP 3 [2, 1, 0] sdIsCross (cCons (cTup (cCons (cC (.int 0)) (cCons (cC (.int 3)) (cCons (cC (.int 3)) (cCons (cC (.int 6)) (cNil)))))) (cCons (cC (.int 4)) (cCons (cVar 4) (cNil))))) (cNil))))
def h68_10 : CS := cSet 1 (cOp addD (cVar 1) (cLst (cCons (cCall sdIsCross (cCons (cCF gList' (cCons (cVar 4) (cNil))) (cCons (cC (.int 2)) (cCons (cTup (cCons (cC (.int 0)) (cCons (cC (.int 3)) (cCons (cC (.int 3)) (cCons (cC (.int 6)) (cNil)))))) (cNil))))) (cCons (cCall sdIsCross (cCons (cVar 4) (cCons (cC (.int 2)) (cCons (cTup (cCons (cC (.int 1)) (cCons (cC (.int 3)) (cCons (cC (.int 4)) (cCons (cC (.int 6)) (cNil)))))) (cNil))))) (cNil)))))
def h68_11 : CS := cSet 1 (cOp addD (cVar 1) (cLst (cCons (cCall sdIsCross (cCons (cVar 4) (cCons (cC (.int 2)) (cCons (cTup (cCons (cC (.int 1)) (cCons (cC (.int 4)) (cCons (cC (.int 4)) (cCons (cC (.int 7)) (cNil)))))) (cNil))))) (cNil))))
def h68_12 : CS := cSet 1 (cOp addD (cVar 1) (cLst (cCons (cCall sdIsCross (cCons (cTup (cCons (cC (.str "x")) (cCons (cC (.str "a")) (cCons (cC (.str "x")) (cCons (cC (.str "a")) (cCons (cC (.str "x")) (cCons (cC (.str "a")) (cCons (cC (.str "x")) (cNil))))))))) (cCons (cC (.int 2)) (cCons (cTup (cCons (cC (.int 0)) (cCons (cC (.int 2)) (cCons (cC (.int 2)) (cCons (cC (.int 6)) (cNil)))))) (cNil))))) (cNil))))
def h68_13 : CS := cSet 1 (cOp addD (cVar 1) (cLst (cCons (cCall sdIsCross (cCons (cVar 3) (cCons (cC (.int 2)) (cCons (cTup (cCons (cC (.int 0)) (cCons (cC (.int 2)) (cCons (cC (.int 4)) (cCons (cC (.int 4)) (cNil)))))) (cNil))))) (cNil))))
def h68_14 : CS := cRet (cCall sdSame (cCons (cVar 1) (cCons (cOp addD (cVar 2) (cLst (cCons (cC (.bool true)) (cCons (cC (.bool false)) (cCons (cC (.bool false)) (cCons (cC (.bool true)) (cCons (cC (.bool true)) (cCons (cC (.bool false)) (cCons (cC (.bool false)) (cNil)))))))))) (cNil))))
def cs_by_hand68 : CS := cSq h68_1 (cSq h68_2 (cSq h68_3 (cSq h68_4 (cSq h68_5 (cSq h68_6 (cSq h68_7 (cSq h68_8 (cSq h68_9 (cSq h68_10 (cSq h68_11 (cSq h68_12 (cSq h68_13 (h68_14)))))))))))))
def trip5 : List Str := ["a", "b", "a", "c", "a"]
def far9 : List Str := ["a", "b", "c", "a", "b", "d", "a", "b", "e"]
def xax7 : List Str := ["x", "a", "x", "a", "x", "a", "x"]
def i4 (a b c d : Int) : D := .tuple [.int a, .int b, .int c, .int d]
def Am6 : List D := [i4 0 2 2 4, .list [.int 0, .int 2, .int 2, .int 4], .tuple [.int 0, .int 2, .int 2], .tuple [.int 0, .int 2, .int 2, .int 4, .int 4], i4 0 1 2 4, i4 0 2 4 4]
def Am10 : List D := Am6 ++ [i4 2 2 2 4, .none, .int 5, .str "0224"]
def Am15 : List D := Am10 ++ [.tuple [.bool false, .int 2, .int 2, .int 4], i4 0 2 2 5, i4 0 2 2 (-1), .tuple [i4 0 2 2 4], .tuple []]
def M17 : List D := Am15 ++ [.tuple [.str "0", .int 2, .int 2, .int 4], i4 0 0 2 4]
theorem M17_ok : ∀ d ∈ M17, Mt d := fun d hd => mtC_ok (List.all_eq_true.mp (show M17.all mtC = true by decide +kernel) d hd)
theorem M17_v : (M17.map fun d => PyData.bool (crossB trip5 2 d)) = [PyData.bool true] ++ List.replicate 16 (.bool false) := by
  have : M17.map (crossB trip5 2) = true :: List.replicate 16 false := by decide +kernel
  have h := congrArg (List.map PyData.bool) this
  rw [List.map_map] at h
  exact h
abbrev hb (g : Option Sl) (t2 : Option Sl) : En := [some (.v (.list M17)), g, t2, some (.v (rowT trip5)), some (.v (rowT far9)), none]
def Jh0 : List D := [PyData.bool true] ++ List.replicate 16 (.bool false)
def Jh1 : List D := Jh0 ++ [.bool true]
def Jh2 : List D := Jh1 ++ [.bool false]
def Jh3 : List D := Jh2 ++ [.bool false, .bool true]
def Jh4 : List D := Jh3 ++ [.bool true]
def Jh5 : List D := Jh4 ++ [.bool false]
def Jh6 : List D := Jh5 ++ [.bool false]
theorem good_trip : ∀ y ∈ trip5, GoodS y := fun y hy => (List.all_eq_true.mp (show (trip5.all fun z => (PyData.str z).canLay0) = true by decide +kernel) y hy : _)
theorem good_far : ∀ y ∈ far9, GoodS y := fun y hy => (List.all_eq_true.mp (show (far9.all fun z => (PyData.str z).canLay0) = true by decide +kernel) y hy : _)
theorem good_xax : ∀ y ∈ xax7, GoodS y := fun y hy => (List.all_eq_true.mp (show (xax7.all fun z => (PyData.str z).canLay0) = true by decide +kernel) y hy : _)
theorem okS_Jh6 : okS 4 (.list Jh6) := by
  refine ⟨by decide, fun d hd => ?_⟩
  have : ∀ d ∈ Jh6, d = .bool true ∨ d = .bool false := by
    intro d hd
    unfold Jh6 Jh5 Jh4 Jh3 Jh2 Jh1 Jh0 at hd
    simp only [List.mem_append, List.mem_cons, List.not_mem_nil, or_false, List.mem_replicate] at hd
    rcases hd with (((((((h | ⟨_, h⟩) | h) | h) | h | h) | h) | h) | h) <;> first | exact .inl h | exact .inr h
  rcases this d hd with rfl | rfl <;> exact trivial
section
variable {e : EndsD} {n : Nat} {t0 t1 t2 t3 t4 : Option Sl}
theorem h68_1_ok (q : e.nx [t0, t1, t2, some (.v (rowT trip5)), some (.v (rowT far9)), none] n) : h68_1 [t0, t1, t2, t3, t4, none] n e := by
  exact ⟨by show 5 ≤ lim; decide, by show 9 ≤ lim; decide, by show 2 ≤ lim; decide, _, rfl, q⟩
theorem h68_2_ok (q : e.nx [some (.v (.list Am6)), t1, t2, t3, t4, none] n) : h68_2 [t0, t1, t2, t3, t4, none] n e := by
  refine ?_
  repeat (refine ⟨(by decide : _ ≤ lim), ?_⟩)
  exact q
theorem h68_3_ok (q : e.nx [some (.v (.list Am10)), t1, t2, t3, t4, none] n) : h68_3 [some (.v (.list Am6)), t1, t2, t3, t4, none] n e := by
  refine ?_
  repeat (refine ⟨(by decide : _ ≤ lim), ?_⟩)
  exact ⟨_, cat_fit rfl, q⟩
theorem h68_4_ok (q : e.nx [some (.v (.list Am15)), t1, t2, t3, t4, none] n) : h68_4 [some (.v (.list Am10)), t1, t2, t3, t4, none] n e := by
  refine ?_
  repeat (refine ⟨(by decide : _ ≤ lim), ?_⟩)
  refine ⟨1, rfl, ?_⟩
  repeat (refine ⟨(by decide : _ ≤ lim), ?_⟩)
  exact ⟨_, cat_fit rfl, q⟩
theorem h68_5_ok (q : e.nx [some (.v (.list M17)), t1, t2, t3, t4, none] n) : h68_5 [some (.v (.list Am15)), t1, t2, t3, t4, none] n e := by
  refine ?_
  repeat (refine ⟨(by decide : _ ≤ lim), ?_⟩)
  exact ⟨_, cat_fit rfl, q⟩
theorem h68_6_ok (q : e.nx (hb (some (.own (.list Jh0))) t2) n) : h68_6 (hb t1 t2) n e := by
  refine ⟨M17, rfl, ?_⟩
  show cLcL _ _ _ _ M17 (hb t1 t2) n [] _
  have hid : M17 = M17.map _root_.id := (List.map_id M17).symm
  suffices h : cLcL (stN 5) cYes (cCall sdIsCross (cCons (cVar 3) (cCons (cC (.int 2)) (cCons (cVar 5) (cNil))))) [5] (M17.map _root_.id) (hb t1 t2) n [] (fun acc ρ' n' => (fun d ρ' n' => 1 < ρ'.length ∧ e.nx (ρ'.set 1 (some (Sl.own d))) n') (.list acc) ρ' n') by
    rw [← hid] at h
    exact h
  refine map_run _root_.id (fun _ => true) (fun d => .bool (crossB trip5 2 d)) M17 [] (fun d hd => ⟨[some (.v (.list M17)), t1, t2, some (.v (rowT trip5)), some (.v (rowT far9)), some (.v d)], rfl, rfl, fun K1 hK => hK, fun K2 hK => ⟨rowT trip5, trip5, 2, d, rfl, rfl, good_trip, by decide, by decide, by decide, M17_ok d hd, hK⟩⟩) (by show 0 + 17 ≤ lim; decide) ?_
  rw [filter_true, List.nil_append, M17_v]
  exact ⟨by show 1 < 6; decide, q⟩
theorem h68_7_ok (q : e.nx (hb t1 (some (.v (.list Jh0)))) n) : h68_7 (hb t1 t2) n e := by
  refine ⟨by show 1 ≤ lim; decide, by show 1 ≤ lim; decide, .list (List.replicate 16 (.bool false)), ?_, _, cat_fit rfl, q⟩
  show (if 0 ≤ (16 : Int) ∧ (16 : Int) ≤ 1000 ∧ [PyData.bool false].length * (16 : Int).toNat ≤ lim then some (PyData.list (List.replicate (16 : Int).toNat [PyData.bool false]).flatten) else none) = _
  rw [if_pos (by decide)]
  rfl
theorem cv {row : List Str} {f : Nat} {d : D} {b : Bool} {k : D → Prop} (h : crossB row f d = b) (q : k (.bool b)) : k (.bool (crossB row f d)) := by rw [h]; exact q
theorem h68_8_ok (q : e.nx (hb (some (.v (.list Jh1))) t2) n) : h68_8 (hb (some (.own (.list Jh0))) t2) n e := by
  refine ⟨by show 4 ≤ lim; decide, rowT far9, far9, 3, i4 0 3 3 6, rfl, rfl, good_far, by decide, by decide, by decide, mtC_ok (by decide +kernel), ?_⟩
  rw [show crossB far9 3 (i4 0 3 3 6) = true by decide +kernel]
  exact ⟨by show 1 ≤ lim; decide, _, cat_fit rfl, q⟩
theorem h68_9_ok (q : e.nx (hb (some (.v (.list Jh2))) t2) n) : h68_9 (hb (some (.v (.list Jh1))) t2) n e := by
  refine ⟨by show 4 ≤ lim; decide, rfl, rowT far9, far9, 4, i4 0 3 3 6, rfl, rfl, good_far, by decide, by decide, by decide, mtC_ok (by decide +kernel), ?_⟩
  rw [show crossB far9 4 (i4 0 3 3 6) = false by decide +kernel]
  exact ⟨by show 1 ≤ lim; decide, _, cat_fit rfl, q⟩
theorem h68_10_ok (q : e.nx (hb (some (.v (.list Jh3))) t2) n) : h68_10 (hb (some (.v (.list Jh2))) t2) n e := by
  refine ⟨_, .inl ⟨_, rfl, rfl⟩, by show 4 ≤ lim; decide, .list (strD far9), far9, 2, i4 0 3 3 6, rfl, rfl, good_far, by decide, by decide, by decide, mtC_ok (by decide +kernel), ?_⟩
  rw [show crossB far9 2 (i4 0 3 3 6) = false by decide +kernel]
  refine ⟨by show 4 ≤ lim; decide, rowT far9, far9, 2, i4 1 3 4 6, rfl, rfl, good_far, by decide, by decide, by decide, mtC_ok (by decide +kernel), ?_⟩
  rw [show crossB far9 2 (i4 1 3 4 6) = true by decide +kernel]
  exact ⟨by show 2 ≤ lim; decide, _, cat_fit rfl, q⟩
theorem h68_11_ok (q : e.nx (hb (some (.v (.list Jh4))) t2) n) : h68_11 (hb (some (.v (.list Jh3))) t2) n e := by
  refine ⟨by show 4 ≤ lim; decide, rowT far9, far9, 2, i4 1 4 4 7, rfl, rfl, good_far, by decide, by decide, by decide, mtC_ok (by decide +kernel), ?_⟩
  rw [show crossB far9 2 (i4 1 4 4 7) = true by decide +kernel]
  exact ⟨by show 1 ≤ lim; decide, _, cat_fit rfl, q⟩
theorem h68_12_ok (q : e.nx (hb (some (.v (.list Jh5))) t2) n) : h68_12 (hb (some (.v (.list Jh4))) t2) n e := by
  refine ⟨by show 7 ≤ lim; decide, by show 4 ≤ lim; decide, rowT xax7, xax7, 2, i4 0 2 2 6, rfl, rfl, good_xax, by decide, by decide, by decide, mtC_ok (by decide +kernel), ?_⟩
  rw [show crossB xax7 2 (i4 0 2 2 6) = false by decide +kernel]
  exact ⟨by show 1 ≤ lim; decide, _, cat_fit rfl, q⟩
theorem h68_13_ok (q : e.nx (hb (some (.v (.list Jh6))) t2) n) : h68_13 (hb (some (.v (.list Jh5))) t2) n e := by
  refine ⟨by show 4 ≤ lim; decide, rowT trip5, trip5, 2, i4 0 2 4 4, rfl, rfl, good_trip, by decide, by decide, by decide, mtC_ok (by decide +kernel), ?_⟩
  rw [show crossB trip5 2 (i4 0 2 4 4) = false by decide +kernel]
  exact ⟨by show 1 ≤ lim; decide, _, cat_fit rfl, q⟩
theorem h68_14_ok (q : e.rt (.bool true) n) : h68_14 (hb (some (.v (.list Jh6))) (some (.v (.list Jh0)))) n e := by
  refine ⟨by show 7 ≤ lim; decide, _, cat_fit rfl, .list Jh6, rfl, okS_Jh6, q⟩
theorem himp_by_hand68 (ds : List D) (n : Nat) (k : D → Nat → Prop) (ke : Xv → Nat → Prop) (h : sdByHand39 ds n k ke) (he : e.rt = k) : cs_by_hand68 (startE n_by_hand68 ds) n e := by
  obtain ⟨rfl, q⟩ := h
  subst he
  refine h68_1_ok ?_
  refine h68_2_ok ?_
  refine h68_3_ok ?_
  refine h68_4_ok ?_
  refine h68_5_ok ?_
  refine h68_6_ok ?_
  refine h68_7_ok ?_
  refine h68_8_ok ?_
  refine h68_9_ok ?_
  refine h68_10_ok ?_
  refine h68_11_ok ?_
  refine h68_12_ok ?_
  refine h68_13_ok ?_
  exact h68_14_ok q
end
end RM
set_option maxHeartbeats 4000000
namespace CS
open PySem PySem.Spec PyProof.Rows L2
section
variable {P : Program} {w : World} {K : PySem.W.Frag} {mg mb : Str → Option Value} {k : Nat} {fa a : Addr} {fd : FuncData} {x : Str} {sp : Sp} {s1 : Shared} {vs : List Value} {ns : List Int}
/-- what a law's call must tell -/
def LawEnds (P : Program) (w : World) (fa a : Addr) (s1 : Shared) : Prop :=
  codeAny (model P w) callerA (.call (.ref fa) ⟨[.ref a], []⟩) (fun r s' => r = .ok (.ret (.bool true)) ∧ OldK s1.heap s'.heap ∧ s'.os = s1.os ∧ AllBare s'.gens) s1
/-- from a tracked heap that knows the script at most -/
theorem law_from {H : Hp} (kin : K.In s1.heap) (gl : s1.heap.Ns mainGlobals mg) (bt : s1.heap.Ns builtinsNs mb) (bb : ∀ y : Str, y ≠ "__name__" → mb y = bootBuiltins y) (nl : s1.heap.NoLimit) (gz : s1.gens = #[])
    (lst : ∃ (its : Array Value) (n : Nat), s1.heap.get? a = some { cls := .type "list", data := .seq its n }) (room : Room k callerA)
    (F : ∀ base : Heap, K.In base → base.Ns mainGlobals mg → FnG P w K mg base k fa fd [x] sp) (bind : ∀ (s : Shared) (u : Value), BindsTo s fd ⟨[u], []⟩ [(x, u)])
    (ok : HOk P w H s1.heap) (only : ∀ b, H b = none ∨ ∃ o xs, H b = some (.frz o (.lst xs))) (at1 : ∀ b, H b ≠ none → b = a) (out : H a ≠ none → K.lookup a = none) (hs : sp [.ref a] H (fun v _ => v = .bl true) fun _ _ _ => False) : LawEnds P w fa a s1 := by
  have keep : ∀ (b : Addr) (o : Obj), s1.heap.get? b = some o → H b = none → (hidT s1.heap H).get? b = some o := fun b o e n => hidT_get e n
  have free : ∀ (b : Addr) (o : Obj) (es : Array DictEntry) (ep : Nat), s1.heap.get? b = some o → o.data = .dict es ep → H b = none := by
    intro b o es ep e d
    refine Classical.byContradiction fun z => ?_
    have eb := at1 b z
    obtain ⟨its, n, el⟩ := lst
    rw [eb, el] at e
    have eo := Option.some.inj e
    subst eo
    cases d
  have names : ∀ (b : Addr) (m : Str → Option Value), s1.heap.Ns b m → (hidT s1.heap H).Ns b m := by
    rintro b m ⟨o, es, ep, e, d, r⟩
    exact ⟨o, es, ep, keep b o e (free b o es ep e d), d, r⟩
  have kin2 : K.In (hidT s1.heap H) := by
    intro b o e
    refine keep b o (kin b o e) (Classical.byContradiction fun z => ?_)
    have eb := at1 b z
    rw [eb] at z e
    rw [out z] at e
    cases e
  have M : Mod K mg (hidT s1.heap H) := ⟨kin2, names _ _ gl, ⟨mb, names _ _ bt, bb⟩, by
    obtain ⟨mc, h1, h2⟩ := nl
    exact ⟨mc, names _ _ h1, h2⟩⟩
  have E0 : Env0 P w K mg (hidT s1.heap H) callerA [] s1 H := {
    frames := rfl
    mod := M
    bs := fun b o e => of_hidT e
    bsz := Nat.le_of_eq (hidT_size _ _)
    funs := trivial
    frf := fun b z => by cases z
    hok := ok
    bare := .of_eq gz }
  have run := (F _ kin2 (names _ _ gl)).run callerA [] s1 H ⟨[.ref a], []⟩ [.ref a] [.ref a] _ _ rfl room E0 (bind s1 (.ref a)) (.cons rfl .nil) hs
  refine codeAny_mono run fun r s' z => ?_
  match r, z with
  | .ok (.ret u), z =>
    obtain ⟨v, H', os, bare, un, ok2, rv, ev⟩ := z
    have ev' : v = .bl true := ev
    rw [ev'] at rv
    have eu : u = Value.bool true := rv
    refine ⟨by rw [eu], OldK.of_keep fun b o e => ?_, os, bare⟩
    rcases only b with n | ⟨o2, xs, y⟩
    · exact un.keep b o e n (fun z => by cases z) (by simp)
    · have y2 := un.frzs b o2 _ y
      have g1 := (ok b _ y).1
      have g2 := (ok2 b _ y2).1
      rw [e] at g1
      rw [g2, ← Option.some.inj g1]
  | .ok .next, z => exact z.elim
  | .ok .brk, z => exact z.elim
  | .ok .cont, z => exact z.elim
  | .error e, z => exact False.elim z
theorem law_callG (kin : K.In s1.heap) (gl : s1.heap.Ns mainGlobals mg) (bt : s1.heap.Ns builtinsNs mb) (bb : ∀ y : Str, y ≠ "__name__" → mb y = bootBuiltins y) (nl : s1.heap.NoLimit) (gz : s1.gens = #[])
    (ha : s1.heap.get? a = some { cls := .type "list", data := .seq vs.toArray }) (hi : IntsAre vs ns) (hl : ns.length ≤ sizeLine) (room : Room k callerA)
    (F : ∀ base : Heap, K.In base → base.Ns mainGlobals mg → FnG P w K mg base k fa fd [x] sp) (bind : ∀ (s : Shared) (u : Value), BindsTo s fd ⟨[u], []⟩ [(x, u)])
    (hs : ∀ H : Hp, SqL K H a (ns.map V.int) → sp [.ref a] H (fun v _ => v = .bl true) fun _ _ _ => False) : LawEnds P w fa a s1 := by
  have rv := vals_ints hi
  have ll : vs.length = ns.length := hi.length
  cases hk : K.lookup a with
  | some o =>
    have e := kin a o hk
    rw [ha] at e
    have eo := Option.some.inj e
    subst eo
    refine law_from (H := fun _ => none) kin gl bt bb nl gz ⟨_, _, ha⟩ room F bind (fun b u z => ?_) (fun b => .inl rfl) (fun b z => absurd rfl z) (fun z => absurd rfl z) (hs _ (.inr ⟨_, vs.toArray, _, hk, rfl, rfl, rfl, ?_, by simpa using rv⟩))
    · have z' : (none : Option HO) = some u := z
      cases z'
    · rw [List.size_toArray, ll]
      exact hl
  | none =>
    obtain ⟨H, eH⟩ : ∃ H : Hp, H = fun b => if b = a then some (.frz { cls := .type "list", data := .seq vs.toArray } (.lst (ns.map V.int))) else none := ⟨_, rfl⟩
    have h1 : H a = some (.frz { cls := .type "list", data := .seq vs.toArray } (.lst (ns.map V.int))) := by
      rw [eH]
      exact if_pos rfl
    have h2 : ∀ b, b ≠ a → H b = none := fun b n => by
      rw [eH]
      exact if_neg n
    refine law_from (H := H) kin gl bt bb nl gz ⟨_, _, ha⟩ room F bind (fun b u z => ?_) (fun b => ?_) (fun b z => ?_) (fun _ => hk) (hs _ (.inl (.inr ⟨_, h1⟩)))
    · by_cases n : b = a
      · rw [n, h1] at z
        have eu := Option.some.inj z
        subst eu
        rw [n]
        exact ⟨ha, by rw [List.length_map]; exact hl, vs, _, rv, ha⟩
      · rw [h2 b n] at z
        cases z
    · by_cases n : b = a
      · exact .inr ⟨_, _, by rw [n]; exact h1⟩
      · exact .inl (h2 b n)
    · exact Classical.byContradiction fun n => z (h2 b n)
end
theorem walk_ofG {l : PySem.W.OpenLaw} {n k : Nat} {q : Program} {loose : List Str} {XP : (Str → Option Value) → Heap → Prop} {YP : World → Heap → Prop} {d : DefRec} {K : Params → PySem.W.Frag} {sp : World → Sp} {x : Str}
    (hn : l.most = some n) (hn2 : n ≤ sizeLine) (hdf : d.params.defaults = []) (room : Room k callerA) (hY : ∀ (w : World) (h : Heap), YP w h → (K w.params).In h)
    (F : ∀ (w : World) (mg : Str → Option Value) (fa : Addr) (h : Heap), (K w.params).In h → h.Ns mainGlobals mg → mg d.name = some (.ref fa) →
      ∃ fd : FuncData, (∀ (s : Shared) (u : Value), BindsTo s fd ⟨[u], []⟩ [(x, u)]) ∧ ∀ base : Heap, (K w.params).In base → base.Ns mainGlobals mg → FnG l.prog w (K w.params) mg base k fa fd [x] (sp w))
    (hs : ∀ (w : World) (H : Hp) (a : Addr) (ns : List Int), ns.length ≤ n → SqL (K w.params) H a (ns.map V.int) → sp w [.ref a] H (fun v _ => v = .bl true) fun _ _ _ => False) :
    PySem.W.WalkO q loose XP YP l.row.toRowW d [] (fun f vs => PySem.call f vs) := by
  refine Att.attach_call hn hdf fun w _ s1 mg _ fa _ _ _ _ a vs ns G Y _ _ _ hmg obj nums len gz => ?_
  have kin := hY w _ Y
  obtain ⟨fd, hb, hF⟩ := F w mg fa _ kin G.T.g hmg
  exact law_callG kin G.T.g G.T.b G.T.builtins G.T.nolimit gz obj nums (Nat.le_trans len hn2) room hF hb fun H hS => hs w H a ns len hS
end CS
set_option maxHeartbeats 8000000
namespace K68
open PySem PySem.Spec PyProof.Rows L2 CS RM
def mem (i j : Nat) : Stmt := (clsBody (top i)).getD j (.Pass ⟨0, 0, 0, 0⟩)
section
variable {P : Program} {w : World} {K : PySem.W.Frag} {mg : Str → Option Value} {base : Heap} {g : Glob} {m : Nat}
abbrev n_law_of : List Str := ["_law_box_here", "_law_some"]
theorem sc_law_of : FnScope n_law_of ["_law_box_here", "_law_some"] (defScope (top 12)) := ⟨rfl, rfl, rfl, by decide +kernel, rfl, by decide +kernel, by decide +kernel⟩
theorem ok_law_of {f : Addr} {fd : FuncData} {k : Nat} (F : Fun K "_law_of" "_law_of" (top 12) f fd) (B : Bl mg) (hK : g.K = K) (h_law_take : HasF P w K mg base CX0 g k "_law_take" ["_law_box_here", "_law_below"] sdTake) : FnOk P w K mg base CX0 (k + 1) f fd ["_law_box_here", "_law_some"] (spD g sdOf) :=
  fnD (cs := cs_of) F sc_law_of (fun ds _ _ _ h => by obtain ⟨_, _, rfl, _⟩ := h; rfl) (fun cdv A outer s H E hr => pdss_one (pds_ret (pd_ix ix_at ⟨hK⟩ (pd_var 1) (pd_fun h_law_take hr (Nat.le_refl _) rfl (fun _ => pa0) (pda_cons (pd_var 0) (pda_cons (pd_callB cd_len ⟨hK⟩ rfl B.len (by decide +kernel) (pda_cons (pd_var 1) (pda_nil))) (pda_nil)))) (fun _ _ => rfl)))) (fun ds n k ke h => himp_of ds n k ke h rfl)
abbrev n_law_pick : List Str := ["_law_box_here", "_law_pool_so", "_law_many_so", "_law_turn", "_law_rest", "_law_found"]
theorem sc_law_pick : FnScope n_law_pick ["_law_box_here", "_law_pool_so", "_law_many_so"] (defScope (top 13)) := ⟨rfl, rfl, rfl, by decide +kernel, rfl, by decide +kernel, by decide +kernel⟩
theorem ok_law_pick {f : Addr} {fd : FuncData} {k : Nat} (F : Fun K "_law_pick" "_law_pick" (top 13) f fd) (B : Bl mg) (hK : g.K = K) (h_law_take : HasF P w K mg base CX0 g k "_law_take" ["_law_box_here", "_law_below"] sdTake) : FnOk P w K mg base CX0 (k + 1) f fd ["_law_box_here", "_law_pool_so", "_law_many_so"] (spD g sdPick) :=
  fnD (cs := cs_pick) F sc_law_pick (fun ds _ _ _ h => by obtain ⟨_, _, _, rfl, _⟩ := h; rfl) (fun cdv A outer s H E hr => pdss_cons (pds_par0 (i := 4) (j := 5) rfl sc_law_pick.nd rfl rfl (by decide) rfl rfl (pf_callTy (cf_list' rfl) ⟨hK⟩ rfl B.list (by decide +kernel) (pda_cons (pd_var 1) (pda_nil)))) (pdss_cons (pds_for PassesOwn.never rfl (pdi_range1 rfl B.range (pda_cons (pd_callB (cd_min rfl) ⟨hK⟩ rfl B.min (by decide +kernel) (pda_cons (pd_var 2) (pda_cons (pd_callBQ cd_len ⟨hK⟩ rfl B.len (by decide +kernel) (pdq_nm 4)) (pda_nil)))) (pda_nil))) (pdg_name (i := 3) sc_law_pick.nd rfl (by first | exact Or.inl rfl | exact Or.inr rfl)) (pdss_one (pds_expr (pd_append 5 (pd_mut 4 PySem.F.slot_list_pop PySem.F.type_list_pop mt_popAt mu_popAt (pda_cons (pd_fun h_law_take hr (Nat.le_refl _) rfl (fun _ => pa0) (pda_cons (pd_var 0) (pda_cons (pd_callBQ cd_len ⟨hK⟩ rfl B.len (by decide +kernel) (pdq_nm 4)) (pda_nil)))) (pda_nil))))))) (pdss_one (pds_ret (pd_var 5))))) (fun ds n k ke h => himp_pick ds n k ke h rfl)
abbrev n_law_tags : List Str := ["_law_box_here", "_law_many_so", "_law_kind_so"]
theorem sc_law_tags : FnScope n_law_tags ["_law_box_here", "_law_many_so"] (defScope (top 16)) := ⟨rfl, rfl, rfl, by decide +kernel, rfl, by decide +kernel, by decide +kernel⟩
theorem ok_law_tags {f : Addr} {fd : FuncData} {k : Nat} (F : Fun K "_law_tags" "_law_tags" (top 16) f fd) (B : Bl mg) (hK : g.K = K) (h_law_take : HasF P w K mg base CX0 g k "_law_take" ["_law_box_here", "_law_below"] sdTake) (h_law_pick : HasF P w K mg base CX0 g k "_law_pick" ["_law_box_here", "_law_pool_so", "_law_many_so"] sdPick) : FnOk P w K mg base CX0 (k + 1) f fd ["_law_box_here", "_law_many_so"] (spD g sdTags) :=
  fnD (cs := cs_tags) F sc_law_tags (fun ds _ _ _ h => by obtain ⟨_, rfl, _⟩ := h; rfl) (fun cdv A outer s H E hr => pdss_cons (pds_set (i := 2) sc_law_tags.nd rfl (by first | exact Or.inl rfl | exact Or.inr rfl) (pd_fun h_law_take hr (Nat.le_refl _) rfl (fun _ => pa0) (pda_cons (pd_var 0) (pda_cons (pd_int) (pda_nil))))) (pdss_cons (pds_if (pdt_cmp (od_eq (hu64 hr)) ⟨hK⟩ (pd_var 2) (pd_int) (by first | exact nomark _ | rfl)) (pdss_one (pds_ret (pd_fun h_law_pick hr (Nat.le_refl _) rfl (fun _ => pa0) (pda_cons (pd_var 0) (pda_cons (pd_str) (pda_cons (pd_var 1) (pda_nil))))))) (pdss_nil)) (pdss_cons (pds_if (pdt_cmp (od_eq (hu64 hr)) ⟨hK⟩ (pd_var 2) (pd_int) (by first | exact nomark _ | rfl)) (pdss_one (pds_ret (pd_fun h_law_pick hr (Nat.le_refl _) rfl (fun _ => pa0) (pda_cons (pd_var 0) (pda_cons (PDF.pd (pf_lst (pda_cons (pd_str) (pda_cons (pd_str) (pda_cons (pd_str) (pda_cons (pd_str) (pda_cons (pd_str) (pda_cons (pd_str) (pda_cons (pd_str) (pda_cons (pd_str) (pda_nil))))))))))) (pda_cons (pd_var 1) (pda_nil))))))) (pdss_nil)) (pdss_one (pds_ret (pd_fun h_law_pick hr (Nat.le_refl _) rfl (fun _ => pa0) (pda_cons (pd_var 0) (pda_cons (PDF.pd (pf_lst (pda_cons (pd_str) (pda_cons (pd_str) (pda_cons (pd_str) (pda_cons (pd_str) (pda_cons (pd_str) (pda_cons (pd_str) (pda_cons (pd_str) (pda_cons (pd_str) (pda_nil))))))))))) (pda_cons (pd_var 1) (pda_nil)))))))))) (fun ds n k ke h => himp_tags ds n k ke h rfl)
abbrev n_law_walk : List Str := ["_law_box_here", "_law_tags_here", "_law_most_so", "_law_row_so", "_law_turn", "_law_near", "_law_back_so", "_law_tag"]
theorem sc_law_walk : FnScope n_law_walk ["_law_box_here", "_law_tags_here", "_law_most_so"] (defScope (top 17)) := ⟨rfl, rfl, rfl, by decide +kernel, rfl, by decide +kernel, by decide +kernel⟩
theorem ok_law_walk {f : Addr} {fd : FuncData} {k : Nat} (F : Fun K "_law_walk" "_law_walk" (top 17) f fd) (B : Bl mg) (hK : g.K = K) (h_law_of : HasF P w K mg base CX0 g k "_law_of" ["_law_box_here", "_law_some"] sdOf) (h_law_take : HasF P w K mg base CX0 g k "_law_take" ["_law_box_here", "_law_below"] sdTake) : FnOk P w K mg base CX0 (k + 1) f fd ["_law_box_here", "_law_tags_here", "_law_most_so"] (spD g sdWalkB) :=
  fnD (cs := cs_walk) F sc_law_walk (fun ds _ _ _ h => by obtain ⟨_, _, rfl, _⟩ := h; rfl) (fun cdv A outer s H E hr => pdss_cons (pds_own (i := 3) sc_law_walk.nd rfl (by first | exact Or.inl rfl | exact Or.inr rfl) (pf_lst (pda_cons (pd_fun h_law_of hr (Nat.le_refl _) rfl (fun _ => pa0) (pda_cons (pd_var 0) (pda_cons (pd_var 1) (pda_nil)))) (pda_nil)))) (pdss_cons (pds_for PassesOwn.never rfl (pdi_range1 rfl B.range (pda_cons (pd_fun h_law_take hr (Nat.le_refl _) rfl (fun _ => pa0) (pda_cons (pd_var 0) (pda_cons (pd_op od_add ⟨hK⟩ (pd_var 2) (pd_int)) (pda_nil)))) (pda_nil))) (pdg_name (i := 4) sc_law_walk.nd rfl (by first | exact Or.inl rfl | exact Or.inr rfl)) (pdss_cons (pds_ownLc (i := 5) (own := [("_law_tag", 7)]) rfl sc_law_walk.nd rfl rfl (pdi_seq ⟨hK⟩ (pd_var 1)) (blkOk_by (own := [("_law_tag", 7)]) (N := n_law_walk) (sc := defScope (top 17)) (by decide +kernel)) (fun _ _ _ _ _ => pdg_name (i := 7) sc_law_walk.nd rfl (by first | exact Or.inl rfl | exact Or.inr rfl)) (fun _ _ _ _ _ => pdts_one (pdt_cmp (od_ne (hu64 hr)) ⟨hK⟩ (pd_var 7) (pd_ixQ ⟨hK⟩ (pdq_nm 3) (pd_neg (pd_int)) (fun _ _ => rfl)) (by first | exact nomark _ | rfl))) (fun _ _ _ _ _ => pd_var 7)) (pdss_cons (pds_set (i := 6) sc_law_walk.nd rfl (by first | exact Or.inl rfl | exact Or.inr rfl) (pd_and (pd_cmp od_gt ⟨hK⟩ (pd_callBQ cd_len ⟨hK⟩ rfl B.len (by decide +kernel) (pdq_nm 3)) (pd_int) (by first | exact nomark _ | rfl)) (pd_one (pd_cmp (od_eq (hu64 hr)) ⟨hK⟩ (pd_fun h_law_take hr (Nat.le_refl _) rfl (fun _ => pa0) (pda_cons (pd_var 0) (pda_cons (pd_int) (pda_nil)))) (pd_int) (by first | exact nomark _ | rfl))))) (pdss_one (pds_expr (pd_append 3 (pd_if (pdt_val (pd_var 6)) (pd_ixQ ⟨hK⟩ (pdq_nm 3) (pd_neg (pd_int)) (fun _ _ => rfl)) (pd_fun h_law_of hr (Nat.le_refl _) rfl (fun _ => pa0) (pda_cons (pd_var 0) (pda_cons (pd_var 5) (pda_nil))))))))))) (pdss_cons (pds_if (PDW.pdt (pdw_and (pdt_cmp (od_ne (hu64 hr)) ⟨hK⟩ (pd_ixQ ⟨hK⟩ (pdq_nm 3) (pd_neg (pd_int)) (fun _ _ => rfl)) (pd_ixQ ⟨hK⟩ (pdq_nm 3) (pd_int) (fun _ _ => rfl)) (by first | exact nomark _ | rfl)) (pdw_and (pdt_cmp od_le ⟨hK⟩ (pd_callBQ cd_len ⟨hK⟩ rfl B.len (by decide +kernel) (pdq_nm 3)) (pd_var 2) (by first | exact nomark _ | rfl)) (pdw_and1 (pdt_cmp (od_eq (hu64 hr)) ⟨hK⟩ (pd_fun h_law_take hr (Nat.le_refl _) rfl (fun _ => pa0) (pda_cons (pd_var 0) (pda_cons (pd_int) (pda_nil)))) (pd_int) (by first | exact nomark _ | rfl)))))) (pdss_one (pds_expr (pd_append 3 (pd_ixQ ⟨hK⟩ (pdq_nm 3) (pd_int) (fun _ _ => rfl))))) (pdss_nil)) (pdss_one (pds_ret (pd_callTy cd_tuple ⟨hK⟩ rfl B.tuple (by decide +kernel) (pda_cons (pd_var 3) (pda_nil)))))))) (fun ds n k ke h => himp_walkB ds n k ke h rfl)
abbrev n_is_number : List Str := ["thing"]
theorem sc_is_number : FnScope n_is_number ["thing"] (defScope (top 3)) := ⟨rfl, rfl, rfl, by decide +kernel, rfl, by decide +kernel, by decide +kernel⟩
theorem ok_is_number {f : Addr} {fd : FuncData} {k : Nat} (F : Fun K "is_number" "is_number" (top 3) f fd) (B : Bl mg) (hK : g.K = K)  : FnOk P w K mg base CX0 (k + 1) f fd ["thing"] (spD g sdIsNum) :=
  fnD (cs := cs_is_number) F sc_is_number (fun ds _ _ _ h => by obtain ⟨_, rfl, _⟩ := h; rfl) (fun cdv A outer s H E hr => pdss_one (pds_ret (pd_and (pd_isInt ⟨hK⟩ (pdq_nm 0) rfl B.int (by decide +kernel) rfl B.isinstance) (pd_one (pd_not (pd_isK1 ⟨hK⟩ (by decide +kernel) (pdq_nm 0) rfl B.bool (by decide +kernel) rfl B.isinstance)))))) (fun ds n k ke h => himp_is_number ds n k ke h rfl)
abbrev n_check_size : List Str := ["journey", "size"]
theorem sc_check_size : FnScope n_check_size ["journey", "size"] (defScope (top 5)) := ⟨rfl, rfl, rfl, by decide +kernel, rfl, by decide +kernel, by decide +kernel⟩
theorem ok_check_size {f : Addr} {fd : FuncData} {k : Nat} (F : Fun K "check_size" "check_size" (top 5) f fd) (B : Bl mg) (hK : g.K = K) {j : Nat} (lj : LtJ j k) (e_NoSize : HasE P w K mg base g j "NoSize" cNoSize ["self", "number"] ["number"]) : FnOk P w K mg base (L2.CX P w) (k + 1) f fd ["journey", "size"] (spD g sdCheckSize) :=
  fnDX (cs := cs_check_size) F sc_check_size (fun ds _ _ _ h => by obtain ⟨_, _, _, rfl, _⟩ := h; rfl) (fun cdv A outer s H E hr tk => pdss_one (pds_if (PDW.pdt (pdw_or (pdt_cmp od_lt ⟨hK⟩ (pd_var 1) (pd_int) (by first | exact nomark _ | rfl)) (pdw_or1 (pdt_cmp od_gt ⟨hK⟩ (pd_var 1) (pd_op od_add ⟨hK⟩ (pd_callB cd_len ⟨hK⟩ rfl B.len (by decide +kernel) (pda_cons (pd_var 0) (pda_nil))) (pd_int)) (by first | exact nomark _ | rfl))))) (pdss_one (pds_raiseH rfl e_NoSize tk hr lj (by rfl) (pda_cons (pd_var 1) (pda_nil)))) (pdss_nil))) (fun ds n k ke h => himp_check_size ds n k ke h (fun _ _ h => h))
abbrev n_cut : List Str := ["journey", "size", "at"]
theorem sc_cut : FnScope n_cut ["journey", "size"] (defScope (top 6)) := ⟨rfl, rfl, rfl, by decide +kernel, rfl, by decide +kernel, by decide +kernel⟩
theorem ok_cut {f : Addr} {fd : FuncData} {k : Nat} (F : Fun K "cut" "cut" (top 6) f fd) (B : Bl mg) (hK : g.K = K)  : FnOk P w K mg base CX0 (k + 1) f fd ["journey", "size"] (spD g sdCut) :=
  fnD (cs := cs_cut) F sc_cut (fun ds _ _ _ h => by obtain ⟨_, _, _, rfl, _⟩ := h; rfl) (fun cdv A outer s H E hr => pdss_one (pds_ret (PDF.pd (pf_lc (own := [("at", 2)]) rfl sc_cut.nd (pdi_range1 rfl B.range (pda_cons (pd_op od_sub ⟨hK⟩ (pd_op od_add ⟨hK⟩ (pd_callB cd_len ⟨hK⟩ rfl B.len (by decide +kernel) (pda_cons (pd_var 0) (pda_nil))) (pd_int)) (pd_var 1)) (pda_nil))) (blkOk_by (own := [("at", 2)]) (N := n_cut) (sc := defScope (top 6)) (by decide +kernel)) (fun _ _ _ _ _ => pdg_name (i := 2) sc_cut.nd rfl (by first | exact Or.inl rfl | exact Or.inr rfl)) (fun _ _ _ _ _ => pdts_nil) (fun _ _ _ _ _ => pd_callTy cd_tuple ⟨hK⟩ rfl B.tuple (by decide +kernel) (pda_cons (pd_slice ⟨hK⟩ (pd_var 0) (pdo_some (pd_var 2)) (pdo_some (pd_op od_add ⟨hK⟩ (pd_var 2) (pd_var 1)))) (pda_nil))))))) (fun ds n k ke h => himp_cut ds n k ke h rfl)
abbrev n_is_crossing_by : List Str := ["journey", "size", "thing", "rows", "one", "inner", "other", "late", "member"]
theorem sc_is_crossing_by : FnScope n_is_crossing_by ["journey", "size", "thing"] (defScope (top 7)) := ⟨rfl, rfl, rfl, by decide +kernel, rfl, by decide +kernel, by decide +kernel⟩
theorem ok_is_crossing_by {f : Addr} {fd : FuncData} {k : Nat} (F : Fun K "is_crossing_by" "is_crossing_by" (top 7) f fd) (B : Bl mg) (hK : g.K = K) (h_check_size : HasF P w K mg base (L2.CX P w) g k "check_size" ["journey", "size"] sdCheckSize) (h_is_number : HasF P w K mg base CX0 g k "is_number" ["thing"] sdIsNum) (h_cut : HasF P w K mg base CX0 g k "cut" ["journey", "size"] sdCut) : FnOk P w K mg base (L2.CX P w) (k + 1) f fd ["journey", "size", "thing"] (spD g sdIsCross) :=
  fnDX (cs := cs_is_crossing) F sc_is_crossing_by (fun ds _ _ _ h => by obtain ⟨_, _, _, _, rfl, _⟩ := h; rfl) (fun cdv A outer s H E hr tk => pdss_cons (pds_expr (pd_fun h_check_size hr (Nat.le_refl _) rfl (fun σ => L2.passAt tk σ) (pda_cons (pd_var 0) (pda_cons (pd_var 1) (pda_nil))))) (pdss_cons (pds_if (PDW.pdt (pdw_or (pdt_not (pdt_val (pd_isK1 ⟨hK⟩ (by decide +kernel) (pdq_nm 2) rfl B.tuple (by decide +kernel) rfl B.isinstance))) (pdw_or (pdt_cmp (od_ne (hu64 hr)) ⟨hK⟩ (pd_callB cd_len ⟨hK⟩ rfl B.len (by decide +kernel) (pda_cons (pd_var 2) (pda_nil))) (pd_int) (by first | exact nomark _ | rfl)) (pdw_or1 (pdt_not (pdt_val (pd_callB (cd_all rfl) ⟨hK⟩ rfl B.all (by decide +kernel) (pda_cons (PDF.pd (pf_lc (own := [("member", 8)]) rfl sc_is_crossing_by.nd (pdi_seq ⟨hK⟩ (pd_var 2)) (blkOk_by (own := [("member", 8)]) (N := n_is_crossing_by) (sc := defScope (top 7)) (by decide +kernel)) (fun _ _ _ _ _ => pdg_name (i := 8) sc_is_crossing_by.nd rfl (by first | exact Or.inl rfl | exact Or.inr rfl)) (fun _ _ _ _ _ => pdts_nil) (fun _ _ _ _ _ => pd_fun h_is_number hr (Nat.le_refl _) rfl (fun _ => pa0) (pda_cons (pd_var 8) (pda_nil))))) (pda_nil))))))))) (pdss_one (pds_ret (pd_bl))) (pdss_nil)) (pdss_cons (pds_asg (pd_var 2) (pdg_tup rfl ⟨hK⟩ (pdgs_cons (pdg_name (i := 4) sc_is_crossing_by.nd rfl (by first | exact Or.inl rfl | exact Or.inr rfl)) (pdgs_cons (pdg_name (i := 5) sc_is_crossing_by.nd rfl (by first | exact Or.inl rfl | exact Or.inr rfl)) (pdgs_cons (pdg_name (i := 6) sc_is_crossing_by.nd rfl (by first | exact Or.inl rfl | exact Or.inr rfl)) (pdgs_cons (pdg_name (i := 7) sc_is_crossing_by.nd rfl (by first | exact Or.inl rfl | exact Or.inr rfl)) (pdgs_nil))))) (stCons_len (stCons_len (stCons_len (stCons_len stNil_len)))))) (pdss_cons (pds_set (i := 3) sc_is_crossing_by.nd rfl (by first | exact Or.inl rfl | exact Or.inr rfl) (pd_fun h_cut hr (Nat.le_refl _) rfl (fun _ => pa0) (pda_cons (pd_var 0) (pda_cons (pd_op od_sub ⟨hK⟩ (pd_var 1) (pd_int)) (pda_nil))))) (pdss_cons (pds_if (pdt_not (pdt_links ⟨hK⟩ (pd_int) (.cons od_le (pd_var 4) (.cons od_lt (pd_var 5) (.cons od_le (pd_var 6) (.cons od_lt (pd_var 7) (.one od_lt (pd_callB cd_len ⟨hK⟩ rfl B.len (by decide +kernel) (pda_cons (pd_var 3) (pda_nil)))))))))) (pdss_one (pds_ret (pd_bl))) (pdss_nil)) (pdss_one (pds_ret (pd_and (pd_cmp (od_eq (hu64 hr)) ⟨hK⟩ (pd_ix ix_at ⟨hK⟩ (pd_var 3) (pd_var 4) (fun _ _ => rfl)) (pd_ix ix_at ⟨hK⟩ (pd_var 3) (pd_var 6) (fun _ _ => rfl)) (by first | exact nomark _ | rfl)) (pd_and (pd_cmp (od_eq (hu64 hr)) ⟨hK⟩ (pd_ix ix_at ⟨hK⟩ (pd_var 3) (pd_var 5) (fun _ _ => rfl)) (pd_ix ix_at ⟨hK⟩ (pd_var 3) (pd_var 7) (fun _ _ => rfl)) (by first | exact nomark _ | rfl)) (pd_one (pd_cmp (od_ne (hu64 hr)) ⟨hK⟩ (pd_ix ix_at ⟨hK⟩ (pd_var 3) (pd_op od_add ⟨hK⟩ (pd_var 4) (pd_int)) (fun _ _ => rfl)) (pd_ix ix_at ⟨hK⟩ (pd_var 3) (pd_op od_add ⟨hK⟩ (pd_var 6) (pd_int)) (fun _ _ => rfl)) (by first | exact nomark _ | rfl)))))))))))) (fun ds n k ke h => himp_is_crossing ds n k ke h rfl (fun _ _ _ h => h))
abbrev n_law_lists : List Str := ["_law_matter", "_law_bit"]
theorem sc_law_lists : FnScope n_law_lists ["_law_matter"] (defScope (top 14)) := ⟨rfl, rfl, rfl, by decide +kernel, rfl, by decide +kernel, by decide +kernel⟩
theorem ok_law_lists {f : Addr} {fd : FuncData} {k : Nat} (F : Fun K "_law_lists" "_law_lists" (top 14) f fd) (B : Bl mg) (hK : g.K = K) (h_law_lists : HasF P w K mg base CX0 g k "_law_lists" ["_law_matter"] (sdLists m)) : FnOk P w K mg base CX0 (k + 1) f fd ["_law_matter"] (spD g (sdLists (m + 1))) :=
  fnD (cs := (cs_lists m)) F sc_law_lists (fun ds _ _ _ h => by obtain ⟨_, rfl, _⟩ := h; rfl) (fun cdv A outer s H E hr => pdss_one (pds_ret (pd_if (pdt_val (pd_isK ⟨hK⟩ (by decide +kernel) (pdq_nm 0) rfl B.list (by decide +kernel) rfl B.tuple (by decide +kernel) rfl B.isinstance)) (PDF.pd (pf_lc (own := [("_law_bit", 1)]) rfl sc_law_lists.nd (pdi_seq ⟨hK⟩ (pd_var 0)) (blkOk_by (own := [("_law_bit", 1)]) (N := n_law_lists) (sc := defScope (top 14)) (by decide +kernel)) (fun _ _ _ _ _ => pdg_name (i := 1) sc_law_lists.nd rfl (by first | exact Or.inl rfl | exact Or.inr rfl)) (fun _ _ _ _ _ => pdts_nil) (fun _ _ _ _ _ => pd_fun h_law_lists hr (Nat.le_refl _) rfl (fun _ => pa0) (pda_cons (pd_var 1) (pda_nil))))) (pd_var 0)))) (fun ds n k ke h => himp_lists m ds n k ke h rfl)
abbrev n_law_crosses : List Str := ["_law_row_so", "_law_far", "_law_mat", "_law_rows_so", "_law_one", "_law_two", "_law_three", "_law_last_so", "_law_k", "_law_own"]
theorem sc_law_crosses : FnScope n_law_crosses ["_law_row_so", "_law_far", "_law_mat"] (defScope (top 18)) := ⟨rfl, rfl, rfl, by decide +kernel, rfl, by decide +kernel, by decide +kernel⟩
theorem ok_law_crosses {f : Addr} {fd : FuncData} {k : Nat} (F : Fun K "_law_crosses" "_law_crosses" (top 18) f fd) (B : Bl mg) (hK : g.K = K)  : FnOk P w K mg base CX0 (k + 1) f fd ["_law_row_so", "_law_far", "_law_mat"] (spD g sdCrosses) :=
  fnD (cs := cs_crosses) F sc_law_crosses (fun ds _ _ _ h => by obtain ⟨_, _, _, rfl, _⟩ := h; rfl) (fun cdv A outer s H E hr => pdss_cons (pds_if (PDW.pdt (pdw_or (pdt_not (pdt_val (pd_isK1 ⟨hK⟩ (by decide +kernel) (pdq_nm 2) rfl B.tuple (by decide +kernel) rfl B.isinstance))) (pdw_or1 (pdt_cmp (od_ne (hu64 hr)) ⟨hK⟩ (pd_callB cd_len ⟨hK⟩ rfl B.len (by decide +kernel) (pda_cons (pd_var 2) (pda_nil))) (pd_int) (by first | exact nomark _ | rfl))))) (pdss_one (pds_ret (pd_bl))) (pdss_nil)) (pdss_cons (pds_if (pdt_cmp (od_ne (hu64 hr)) ⟨hK⟩ (PDF.pd (pf_lc (own := [("_law_own", 9)]) rfl sc_law_crosses.nd (pdi_seq ⟨hK⟩ (pd_var 2)) (blkOk_by (own := [("_law_own", 9)]) (N := n_law_crosses) (sc := defScope (top 18)) (by decide +kernel)) (fun _ _ _ _ _ => pdg_name (i := 9) sc_law_crosses.nd rfl (by first | exact Or.inl rfl | exact Or.inr rfl)) (fun _ _ _ _ _ => pdts_one (PDW.pdt (pdw_or (pdt_not (pdt_val (pd_isInt ⟨hK⟩ (pdq_nm 9) rfl B.int (by decide +kernel) rfl B.isinstance))) (pdw_or1 (pdt_val (pd_isK1 ⟨hK⟩ (by decide +kernel) (pdq_nm 9) rfl B.bool (by decide +kernel) rfl B.isinstance)))))) (fun _ _ _ _ _ => pd_var 9))) (PDF.pd (pf_lst (pda_nil))) (by first | exact nomark _ | rfl)) (pdss_one (pds_ret (pd_bl))) (pdss_nil)) (pdss_cons (pds_asg (pd_var 2) (pdg_tup rfl ⟨hK⟩ (pdgs_cons (pdg_name (i := 4) sc_law_crosses.nd rfl (by first | exact Or.inl rfl | exact Or.inr rfl)) (pdgs_cons (pdg_name (i := 5) sc_law_crosses.nd rfl (by first | exact Or.inl rfl | exact Or.inr rfl)) (pdgs_cons (pdg_name (i := 6) sc_law_crosses.nd rfl (by first | exact Or.inl rfl | exact Or.inr rfl)) (pdgs_cons (pdg_name (i := 7) sc_law_crosses.nd rfl (by first | exact Or.inl rfl | exact Or.inr rfl)) (pdgs_nil))))) (stCons_len (stCons_len (stCons_len (stCons_len stNil_len)))))) (pdss_cons (pds_ownLc (i := 3) (own := [("_law_k", 8)]) rfl sc_law_crosses.nd rfl rfl (pdi_range1 rfl B.range (pda_cons (pd_op od_add ⟨hK⟩ (pd_op od_sub ⟨hK⟩ (pd_callB cd_len ⟨hK⟩ rfl B.len (by decide +kernel) (pda_cons (pd_var 0) (pda_nil))) (pd_var 1)) (pd_int)) (pda_nil))) (blkOk_by (own := [("_law_k", 8)]) (N := n_law_crosses) (sc := defScope (top 18)) (by decide +kernel)) (fun _ _ _ _ _ => pdg_name (i := 8) sc_law_crosses.nd rfl (by first | exact Or.inl rfl | exact Or.inr rfl)) (fun _ _ _ _ _ => pdts_nil) (fun _ _ _ _ _ => pd_slice ⟨hK⟩ (pd_var 0) (pdo_some (pd_var 8)) (pdo_some (pd_op od_sub ⟨hK⟩ (pd_op od_add ⟨hK⟩ (pd_var 8) (pd_var 1)) (pd_int))))) (pdss_cons (pds_if (pdt_not (pdt_links ⟨hK⟩ (pd_int) (.cons od_le (pd_var 4) (.cons od_lt (pd_var 5) (.cons od_le (pd_var 6) (.cons od_lt (pd_var 7) (.one od_lt (pd_callB cd_len ⟨hK⟩ rfl B.len (by decide +kernel) (pda_cons (pd_var 3) (pda_nil)))))))))) (pdss_one (pds_ret (pd_bl))) (pdss_nil)) (pdss_cons (pds_if (PDW.pdt (pdw_or (pdt_cmp (od_ne (hu64 hr)) ⟨hK⟩ (pd_ix ix_at ⟨hK⟩ (pd_var 3) (pd_var 4) (fun _ _ => rfl)) (pd_ix ix_at ⟨hK⟩ (pd_var 3) (pd_var 6) (fun _ _ => rfl)) (by first | exact nomark _ | rfl)) (pdw_or1 (pdt_cmp (od_ne (hu64 hr)) ⟨hK⟩ (pd_ix ix_at ⟨hK⟩ (pd_var 3) (pd_var 5) (fun _ _ => rfl)) (pd_ix ix_at ⟨hK⟩ (pd_var 3) (pd_var 7) (fun _ _ => rfl)) (by first | exact nomark _ | rfl))))) (pdss_one (pds_ret (pd_bl))) (pdss_nil)) (pdss_one (pds_ret (pd_cmp (od_ne (hu64 hr)) ⟨hK⟩ (pd_ix ix_at ⟨hK⟩ (pd_var 0) (pd_op od_sub ⟨hK⟩ (pd_op od_add ⟨hK⟩ (pd_var 4) (pd_var 1)) (pd_int)) (fun _ _ => rfl)) (pd_ix ix_at ⟨hK⟩ (pd_var 0) (pd_op od_sub ⟨hK⟩ (pd_op od_add ⟨hK⟩ (pd_var 6) (pd_var 1)) (pd_int)) (fun _ _ => rfl)) (by first | exact nomark _ | rfl)))))))))) (fun ds n k ke h => himp_crosses ds n k ke h rfl)
abbrev n_law_fours : List Str := ["_law_many_so", "_law_found", "_law_one", "_law_two", "_law_three", "_law_four"]
theorem sc_law_fours : FnScope n_law_fours ["_law_many_so"] (defScope (top 19)) := ⟨rfl, rfl, rfl, by decide +kernel, rfl, by decide +kernel, by decide +kernel⟩
theorem ok_law_fours {f : Addr} {fd : FuncData} {k : Nat} (F : Fun K "_law_fours" "_law_fours" (top 19) f fd) (B : Bl mg) (hK : g.K = K)  : FnOk P w K mg base CX0 (k + 1) f fd ["_law_many_so"] (spD g sdFours) :=
  fnD (cs := cs_fours) F sc_law_fours (fun ds _ _ _ h => by obtain ⟨_, rfl, _⟩ := h; rfl) (fun cdv A outer s H E hr => pdss_cons (pds_set (i := 1) sc_law_fours.nd rfl (by first | exact Or.inl rfl | exact Or.inr rfl) (PDF.pd (pf_lst (pda_nil)))) (pdss_cons (pds_for PassesOwn.never rfl (pdi_range1 rfl B.range (pda_cons (pd_var 0) (pda_nil))) (pdg_name (i := 2) sc_law_fours.nd rfl (by first | exact Or.inl rfl | exact Or.inr rfl)) (pdss_one (pds_for PassesOwn.never rfl (pdi_range2 rfl B.range (pda_cons (pd_op od_add ⟨hK⟩ (pd_var 2) (pd_int)) (pda_cons (pd_var 0) (pda_nil)))) (pdg_name (i := 3) sc_law_fours.nd rfl (by first | exact Or.inl rfl | exact Or.inr rfl)) (pdss_one (pds_for PassesOwn.never rfl (pdi_range2 rfl B.range (pda_cons (pd_var 3) (pda_cons (pd_var 0) (pda_nil)))) (pdg_name (i := 4) sc_law_fours.nd rfl (by first | exact Or.inl rfl | exact Or.inr rfl)) (pdss_one (pds_set (i := 1) sc_law_fours.nd rfl (by first | exact Or.inl rfl | exact Or.inr rfl) (pd_op od_add ⟨hK⟩ (pd_var 1) (PDF.pd (pf_lc (own := [("_law_four", 5)]) rfl sc_law_fours.nd (pdi_range2 rfl B.range (pda_cons (pd_op od_add ⟨hK⟩ (pd_var 4) (pd_int)) (pda_cons (pd_var 0) (pda_nil)))) (blkOk_by (own := [("_law_four", 5)]) (N := n_law_fours) (sc := defScope (top 19)) (by decide +kernel)) (fun _ _ _ _ _ => pdg_name (i := 5) sc_law_fours.nd rfl (by first | exact Or.inl rfl | exact Or.inr rfl)) (fun _ _ _ _ _ => pdts_nil) (fun _ _ _ _ _ => pd_tup (pda_cons (pd_var 2) (pda_cons (pd_var 3) (pda_cons (pd_var 4) (pda_cons (pd_var 5) (pda_nil)))))))))))))))) (pdss_one (pds_ret (pd_var 1))))) (fun ds n k ke h => himp_fours ds n k ke h rfl)
abbrev n_law_bent : List Str := ["_law_box_here", "_law_mat", "_law_spot", "_law_some", "_law_odd"]
theorem sc_law_bent : FnScope n_law_bent ["_law_box_here", "_law_mat"] (defScope (top 20)) := ⟨rfl, rfl, rfl, by decide +kernel, rfl, by decide +kernel, by decide +kernel⟩
theorem ok_law_bent {f : Addr} {fd : FuncData} {k : Nat} (F : Fun K "_law_bent" "_law_bent" (top 20) f fd) (B : Bl mg) (hK : g.K = K) (h_law_take : HasF P w K mg base CX0 g k "_law_take" ["_law_box_here", "_law_below"] sdTake) (h_law_of : HasF P w K mg base CX0 g k "_law_of" ["_law_box_here", "_law_some"] sdOf) : FnOk P w K mg base CX0 (k + 1) f fd ["_law_box_here", "_law_mat"] (spD g sdBent68) :=
  fnD (cs := cs_bent68) F sc_law_bent (fun ds _ _ _ h => by obtain ⟨_, rfl, _⟩ := h; rfl) (fun cdv A outer s H E hr => pdss_cons (pds_set (i := 2) sc_law_bent.nd rfl (by first | exact Or.inl rfl | exact Or.inr rfl) (pd_fun h_law_take hr (Nat.le_refl _) rfl (fun _ => pa0) (pda_cons (pd_var 0) (pda_cons (pd_int) (pda_nil))))) (pdss_cons (pds_set (i := 3) sc_law_bent.nd rfl (by first | exact Or.inl rfl | exact Or.inr rfl) (PDF.pd (pf_lst (pda_cons (pd_non) (pda_cons (pd_bl) (pda_cons (pd_bl) (pda_cons (pd_str) (pda_cons (pd_tup (pda_nil)) (pda_cons (pd_neg (pd_int)) (pda_cons (pd_op od_pow ⟨hK⟩ (pd_int) (pd_int)) (pda_nil))))))))))) (pdss_cons (pds_set (i := 4) sc_law_bent.nd rfl (by first | exact Or.inl rfl | exact Or.inr rfl) (pd_fun h_law_of hr (Nat.le_refl _) rfl (fun _ => pa0) (pda_cons (pd_var 0) (pda_cons (pd_op od_add ⟨hK⟩ (pd_var 3) (PDF.pd (pf_lst (pda_cons (pd_op od_add ⟨hK⟩ (pd_ix ix_at ⟨hK⟩ (pd_var 1) (pd_var 2) (fun _ _ => rfl)) (pd_int)) (pda_cons (pd_op od_sub ⟨hK⟩ (pd_ix ix_at ⟨hK⟩ (pd_var 1) (pd_var 2) (fun _ _ => rfl)) (pd_int)) (pda_cons (pd_tup (pda_cons (pd_ix ix_at ⟨hK⟩ (pd_var 1) (pd_var 2) (fun _ _ => rfl)) (pda_nil))) (pda_nil))))))) (pda_nil))))) (pdss_cons (pds_set (i := 3) sc_law_bent.nd rfl (by first | exact Or.inl rfl | exact Or.inr rfl) (PDF.pd (pf_lst (pda_cons (pd_op od_add ⟨hK⟩ (pd_op od_add ⟨hK⟩ (pd_slice ⟨hK⟩ (pd_var 1) (pdo_none) (pdo_some (pd_var 2))) (pd_tup (pda_cons (pd_var 4) (pda_nil)))) (pd_slice ⟨hK⟩ (pd_var 1) (pdo_some (pd_op od_add ⟨hK⟩ (pd_var 2) (pd_int))) (pdo_none))) (pda_cons (pd_slice ⟨hK⟩ (pd_var 1) (pdo_none) (pdo_some (pd_var 2))) (pda_cons (pd_op od_add ⟨hK⟩ (pd_var 1) (pd_tup (pda_cons (pd_var 4) (pda_nil)))) (pda_nil))))))) (pdss_one (pds_ret (pd_fun h_law_of hr (Nat.le_refl _) rfl (fun _ => pa0) (pda_cons (pd_var 0) (pda_cons (pd_op od_add ⟨hK⟩ (pd_var 3) (PDF.pd (pf_lst (pda_cons (PDF.pd (pf_callTy (cf_list' rfl) ⟨hK⟩ rfl B.list (by decide +kernel) (pda_cons (pd_var 1) (pda_nil)))) (pda_cons (pd_tup (pda_cons (pd_var 1) (pda_nil))) (pda_cons (pd_var 4) (pda_nil))))))) (pda_nil)))))))))) (fun ds n k ke h => himp_bent68 ds n k ke h rfl)
abbrev n_law_by_hand_right : List Str := ["_law_some", "_law_got", "_law_due", "_law_trip", "_law_far", "_law_own"]
theorem sc_law_by_hand_right : FnScope n_law_by_hand_right [] (defScope (top 21)) := ⟨rfl, rfl, rfl, by decide +kernel, rfl, by decide +kernel, by decide +kernel⟩
theorem ok_law_by_hand_right {f : Addr} {fd : FuncData} {k : Nat} (F : Fun K "_law_by_hand_right" "_law_by_hand_right" (top 21) f fd) (B : Bl mg) (hK : g.K = K) (h_is_crossing_by : HasF P w K mg base (L2.CX P w) g k "is_crossing_by" ["journey", "size", "thing"] sdIsCross) (hFP_is_crossing_by_2_1_0 : HasFP P w K mg base (L2.CX P w) g k "is_crossing_by" ["journey", "size", "thing"] ["thing", "size", "journey"] [2, 1, 0] sdIsCross) (h_law_same : HasF P w K mg base CX0 g k "_law_same" ["_law_got", "_law_due"] sdSame) : FnOk P w K mg base CX0 (k + 1) f fd [] (spD g sdByHand39) :=
  fnD (cs := cs_by_hand68) F sc_law_by_hand_right (fun ds _ _ _ h => by obtain ⟨rfl, _⟩ := h; rfl) (fun cdv A outer s H E hr => pdss_cons (pds_asg (pd_tup (pda_cons (pd_tup (pda_cons (pd_str) (pda_cons (pd_str) (pda_cons (pd_str) (pda_cons (pd_str) (pda_cons (pd_str) (pda_nil))))))) (pda_cons (pd_tup (pda_cons (pd_str) (pda_cons (pd_str) (pda_cons (pd_str) (pda_cons (pd_str) (pda_cons (pd_str) (pda_cons (pd_str) (pda_cons (pd_str) (pda_cons (pd_str) (pda_cons (pd_str) (pda_nil))))))))))) (pda_nil)))) (pdg_tup rfl ⟨hK⟩ (pdgs_cons (pdg_name (i := 3) sc_law_by_hand_right.nd rfl (by first | exact Or.inl rfl | exact Or.inr rfl)) (pdgs_cons (pdg_name (i := 4) sc_law_by_hand_right.nd rfl (by first | exact Or.inl rfl | exact Or.inr rfl)) (pdgs_nil))) (stCons_len (stCons_len stNil_len)))) (pdss_cons (pds_set (i := 0) sc_law_by_hand_right.nd rfl (by first | exact Or.inl rfl | exact Or.inr rfl) (PDF.pd (pf_lst (pda_cons (pd_tup (pda_cons (pd_int) (pda_cons (pd_int) (pda_cons (pd_int) (pda_cons (pd_int) (pda_nil)))))) (pda_cons (PDF.pd (pf_lst (pda_cons (pd_int) (pda_cons (pd_int) (pda_cons (pd_int) (pda_cons (pd_int) (pda_nil))))))) (pda_cons (pd_tup (pda_cons (pd_int) (pda_cons (pd_int) (pda_cons (pd_int) (pda_nil))))) (pda_cons (pd_tup (pda_cons (pd_int) (pda_cons (pd_int) (pda_cons (pd_int) (pda_cons (pd_int) (pda_cons (pd_int) (pda_nil))))))) (pda_cons (pd_tup (pda_cons (pd_int) (pda_cons (pd_int) (pda_cons (pd_int) (pda_cons (pd_int) (pda_nil)))))) (pda_cons (pd_tup (pda_cons (pd_int) (pda_cons (pd_int) (pda_cons (pd_int) (pda_cons (pd_int) (pda_nil)))))) (pda_nil)))))))))) (pdss_cons (pds_set (i := 0) sc_law_by_hand_right.nd rfl (by first | exact Or.inl rfl | exact Or.inr rfl) (pd_op od_add ⟨hK⟩ (pd_var 0) (PDF.pd (pf_lst (pda_cons (pd_tup (pda_cons (pd_int) (pda_cons (pd_int) (pda_cons (pd_int) (pda_cons (pd_int) (pda_nil)))))) (pda_cons (pd_non) (pda_cons (pd_int) (pda_cons (pd_str) (pda_nil))))))))) (pdss_cons (pds_set (i := 0) sc_law_by_hand_right.nd rfl (by first | exact Or.inl rfl | exact Or.inr rfl) (pd_op od_add ⟨hK⟩ (pd_var 0) (PDF.pd (pf_lst (pda_cons (pd_tup (pda_cons (pd_bl) (pda_cons (pd_int) (pda_cons (pd_int) (pda_cons (pd_int) (pda_nil)))))) (pda_cons (pd_tup (pda_cons (pd_int) (pda_cons (pd_int) (pda_cons (pd_int) (pda_cons (pd_int) (pda_nil)))))) (pda_cons (pd_tup (pda_cons (pd_int) (pda_cons (pd_int) (pda_cons (pd_int) (pda_cons (pd_neg (pd_int)) (pda_nil)))))) (pda_cons (pd_tup (pda_cons (pd_tup (pda_cons (pd_int) (pda_cons (pd_int) (pda_cons (pd_int) (pda_cons (pd_int) (pda_nil)))))) (pda_nil))) (pda_cons (pd_tup (pda_nil)) (pda_nil)))))))))) (pdss_cons (pds_set (i := 0) sc_law_by_hand_right.nd rfl (by first | exact Or.inl rfl | exact Or.inr rfl) (pd_op od_add ⟨hK⟩ (pd_var 0) (PDF.pd (pf_lst (pda_cons (pd_tup (pda_cons (pd_str) (pda_cons (pd_int) (pda_cons (pd_int) (pda_cons (pd_int) (pda_nil)))))) (pda_cons (pd_tup (pda_cons (pd_int) (pda_cons (pd_int) (pda_cons (pd_int) (pda_cons (pd_int) (pda_nil)))))) (pda_nil))))))) (pdss_cons (pds_ownLc (i := 1) (own := [("_law_own", 5)]) rfl sc_law_by_hand_right.nd rfl rfl (pdi_seq ⟨hK⟩ (pd_var 0)) (blkOk_by (own := [("_law_own", 5)]) (N := n_law_by_hand_right) (sc := defScope (top 21)) (by decide +kernel)) (fun _ _ _ _ _ => pdg_name (i := 5) sc_law_by_hand_right.nd rfl (by first | exact Or.inl rfl | exact Or.inr rfl)) (fun _ _ _ _ _ => pdts_nil) (fun _ _ _ _ _ => pd_fun h_is_crossing_by hr (Nat.le_refl _) rfl (paF) (pda_cons (pd_var 3) (pda_cons (pd_int) (pda_cons (pd_var 5) (pda_nil)))))) (pdss_cons (pds_set (i := 2) sc_law_by_hand_right.nd rfl (by first | exact Or.inl rfl | exact Or.inr rfl) (pd_op od_add ⟨hK⟩ (PDF.pd (pf_lst (pda_cons (pd_bl) (pda_nil)))) (pd_op od_rep ⟨hK⟩ (PDF.pd (pf_lst (pda_cons (pd_bl) (pda_nil)))) (pd_int)))) (pdss_cons (pds_set (i := 1) sc_law_by_hand_right.nd rfl (by first | exact Or.inl rfl | exact Or.inr rfl) (pd_op od_add ⟨hK⟩ (pd_var 1) (PDF.pd (pf_lst (pda_cons (pd_fun h_is_crossing_by hr (Nat.le_refl _) rfl (paF) (pda_cons (pd_var 4) (pda_cons (pd_int) (pda_cons (pd_tup (pda_cons (pd_int) (pda_cons (pd_int) (pda_cons (pd_int) (pda_cons (pd_int) (pda_nil)))))) (pda_nil))))) (pda_nil)))))) (pdss_cons (pds_set (i := 1) sc_law_by_hand_right.nd rfl (by first | exact Or.inl rfl | exact Or.inr rfl) (pd_op od_add ⟨hK⟩ (pd_var 1) (PDF.pd (pf_lst (pda_cons (pd_funP (ks := ["thing", "size", "journey"]) (is := [2, 1, 0]) hFP_is_crossing_by_2_1_0 hr (Nat.le_refl _) (by rfl) (paF) (pdk_cons (pd_tup (pda_cons (pd_int) (pda_cons (pd_int) (pda_cons (pd_int) (pda_cons (pd_int) (pda_nil)))))) (pdk_cons (pd_int) (pdk_cons (pd_var 4) (pdk_nil))))) (pda_nil)))))) (pdss_cons (pds_set (i := 1) sc_law_by_hand_right.nd rfl (by first | exact Or.inl rfl | exact Or.inr rfl) (pd_op od_add ⟨hK⟩ (pd_var 1) (PDF.pd (pf_lst (pda_cons (pd_fun h_is_crossing_by hr (Nat.le_refl _) rfl (paF) (pda_cons (PDF.pd (pf_callTy (cf_list' rfl) ⟨hK⟩ rfl B.list (by decide +kernel) (pda_cons (pd_var 4) (pda_nil)))) (pda_cons (pd_int) (pda_cons (pd_tup (pda_cons (pd_int) (pda_cons (pd_int) (pda_cons (pd_int) (pda_cons (pd_int) (pda_nil)))))) (pda_nil))))) (pda_cons (pd_fun h_is_crossing_by hr (Nat.le_refl _) rfl (paF) (pda_cons (pd_var 4) (pda_cons (pd_int) (pda_cons (pd_tup (pda_cons (pd_int) (pda_cons (pd_int) (pda_cons (pd_int) (pda_cons (pd_int) (pda_nil)))))) (pda_nil))))) (pda_nil))))))) (pdss_cons (pds_set (i := 1) sc_law_by_hand_right.nd rfl (by first | exact Or.inl rfl | exact Or.inr rfl) (pd_op od_add ⟨hK⟩ (pd_var 1) (PDF.pd (pf_lst (pda_cons (pd_fun h_is_crossing_by hr (Nat.le_refl _) rfl (paF) (pda_cons (pd_var 4) (pda_cons (pd_int) (pda_cons (pd_tup (pda_cons (pd_int) (pda_cons (pd_int) (pda_cons (pd_int) (pda_cons (pd_int) (pda_nil)))))) (pda_nil))))) (pda_nil)))))) (pdss_cons (pds_set (i := 1) sc_law_by_hand_right.nd rfl (by first | exact Or.inl rfl | exact Or.inr rfl) (pd_op od_add ⟨hK⟩ (pd_var 1) (PDF.pd (pf_lst (pda_cons (pd_fun h_is_crossing_by hr (Nat.le_refl _) rfl (paF) (pda_cons (pd_tup (pda_cons (pd_str) (pda_cons (pd_str) (pda_cons (pd_str) (pda_cons (pd_str) (pda_cons (pd_str) (pda_cons (pd_str) (pda_cons (pd_str) (pda_nil))))))))) (pda_cons (pd_int) (pda_cons (pd_tup (pda_cons (pd_int) (pda_cons (pd_int) (pda_cons (pd_int) (pda_cons (pd_int) (pda_nil)))))) (pda_nil))))) (pda_nil)))))) (pdss_cons (pds_set (i := 1) sc_law_by_hand_right.nd rfl (by first | exact Or.inl rfl | exact Or.inr rfl) (pd_op od_add ⟨hK⟩ (pd_var 1) (PDF.pd (pf_lst (pda_cons (pd_fun h_is_crossing_by hr (Nat.le_refl _) rfl (paF) (pda_cons (pd_var 3) (pda_cons (pd_int) (pda_cons (pd_tup (pda_cons (pd_int) (pda_cons (pd_int) (pda_cons (pd_int) (pda_cons (pd_int) (pda_nil)))))) (pda_nil))))) (pda_nil)))))) (pdss_one (pds_ret (pd_fun h_law_same hr (Nat.le_refl _) rfl (fun _ => pa0) (pda_cons (pd_var 1) (pda_cons (pd_op od_add ⟨hK⟩ (pd_var 2) (PDF.pd (pf_lst (pda_cons (pd_bl) (pda_cons (pd_bl) (pda_cons (pd_bl) (pda_cons (pd_bl) (pda_cons (pd_bl) (pda_cons (pd_bl) (pda_cons (pd_bl) (pda_nil))))))))))) (pda_nil))))))))))))))))))) (fun ds n k ke h => himp_by_hand68 ds n k ke h rfl)
abbrev n_law_right : List Str := ["_law_box_here", "_law_row_so", "_law_far", "_law_soft", "_law_rising", "_law_mat", "_law_was", "_law_due", "_law_lap"]
theorem sc_law_right : FnScope n_law_right ["_law_box_here"] (defScope (top 22)) := ⟨rfl, rfl, rfl, by decide +kernel, rfl, by decide +kernel, by decide +kernel⟩
theorem ok_law_right {f : Addr} {fd : FuncData} {k : Nat} (F : Fun K "_law_right" "_law_right" (top 22) f fd) (B : Bl mg) (hK : g.K = K) (h_law_walk : HasF P w K mg base CX0 g k "_law_walk" ["_law_box_here", "_law_tags_here", "_law_most_so"] sdWalkB) (h_law_tags : HasF P w K mg base CX0 g k "_law_tags" ["_law_box_here", "_law_many_so"] sdTags) (h_law_take : HasF P w K mg base CX0 g k "_law_take" ["_law_box_here", "_law_below"] sdTake) (h_law_lists : HasF P w K mg base CX0 g k "_law_lists" ["_law_matter"] (sdLists 3)) (h_law_fours : HasF P w K mg base CX0 g k "_law_fours" ["_law_many_so"] sdFours) (h_law_bent : HasF P w K mg base CX0 g k "_law_bent" ["_law_box_here", "_law_mat"] sdBent68) (h_law_of : HasF P w K mg base CX0 g k "_law_of" ["_law_box_here", "_law_some"] sdOf) (h_law_crosses : HasF P w K mg base CX0 g k "_law_crosses" ["_law_row_so", "_law_far", "_law_mat"] sdCrosses) (h_law_same : HasF P w K mg base CX0 g k "_law_same" ["_law_got", "_law_due"] sdSame) (h_is_crossing_by : HasF P w K mg base (L2.CX P w) g k "is_crossing_by" ["journey", "size", "thing"] sdIsCross) : FnG P w K mg base (k + 1) f fd ["_law_box_here"] (spD g (sdRightN 500000 3000)) :=
  fnDG (cs := cs_right68) F sc_law_right (fun ds _ _ _ h => by obtain ⟨rfl, _⟩ := h; rfl) (fun cdv A outer s H E gd hr => pdss_cons (pds_set (i := 1) sc_law_right.nd rfl (by first | exact Or.inl rfl | exact Or.inr rfl) (pd_fun h_law_walk hr (Nat.le_refl _) rfl (fun _ => pa0) (pda_cons (pd_var 0) (pda_cons (pd_fun h_law_tags hr (Nat.le_refl _) rfl (fun _ => pa0) (pda_cons (pd_var 0) (pda_cons (pd_op od_add ⟨hK⟩ (pd_int) (pd_fun h_law_take hr (Nat.le_refl _) rfl (fun _ => pa0) (pda_cons (pd_var 0) (pda_cons (pd_int) (pda_nil))))) (pda_nil)))) (pda_cons (pd_int) (pda_nil)))))) (pdss_cons (pds_set (i := 2) sc_law_right.nd rfl (by first | exact Or.inl rfl | exact Or.inr rfl) (pd_op od_add ⟨hK⟩ (pd_int) (pd_fun h_law_take hr (Nat.le_refl _) rfl (fun _ => pa0) (pda_cons (pd_var 0) (pda_cons (pd_callB (cd_min rfl) ⟨hK⟩ rfl B.min (by decide +kernel) (pda_cons (pd_int) (pda_cons (pd_callB cd_len ⟨hK⟩ rfl B.len (by decide +kernel) (pda_cons (pd_var 1) (pda_nil))) (pda_nil)))) (pda_nil)))))) (pdss_cons (pds_set (i := 3) sc_law_right.nd rfl (by first | exact Or.inl rfl | exact Or.inr rfl) (pd_fun h_law_lists hr (Nat.le_refl _) rfl (fun _ => pa0) (pda_cons (pd_var 1) (pda_nil)))) (pdss_cons (pds_set (i := 4) sc_law_right.nd rfl (by first | exact Or.inl rfl | exact Or.inr rfl) (pd_op od_add ⟨hK⟩ (pd_fun h_law_fours hr (Nat.le_refl _) rfl (fun _ => pa0) (pda_cons (pd_op od_add ⟨hK⟩ (pd_op od_sub ⟨hK⟩ (pd_callB cd_len ⟨hK⟩ rfl B.len (by decide +kernel) (pda_cons (pd_var 1) (pda_nil))) (pd_var 2)) (pd_int)) (pda_nil))) (PDF.pd (pf_lst (pda_cons (pd_tup (pda_cons (pd_int) (pda_cons (pd_int) (pda_cons (pd_int) (pda_cons (pd_int) (pda_nil)))))) (pda_nil)))))) (pdss_cons (pds_for PassesOwn.never rfl (pdi_seq ⟨hK⟩ (pd_op od_add ⟨hK⟩ (pd_var 4) (PDF.pd (pf_lc (own := [("_law_lap", 8)]) rfl sc_law_right.nd (pdi_range1 rfl B.range (pda_cons (pd_int) (pda_nil))) (blkOk_by (own := [("_law_lap", 8)]) (N := n_law_right) (sc := defScope (top 22)) (by decide +kernel)) (fun _ _ _ _ _ => pdg_name (i := 8) sc_law_right.nd rfl (by first | exact Or.inl rfl | exact Or.inr rfl)) (fun _ _ _ _ _ => pdts_nil) (fun _ _ _ _ _ => pd_fun h_law_bent hr (Nat.le_refl _) rfl (fun _ => pa0) (pda_cons (pd_var 0) (pda_cons (pd_fun h_law_of hr (Nat.le_refl _) rfl (fun _ => pa0) (pda_cons (pd_var 0) (pda_cons (pd_var 4) (pda_nil)))) (pda_nil)))))))) (pdg_name (i := 5) sc_law_right.nd rfl (by first | exact Or.inl rfl | exact Or.inr rfl)) (pdss_cons (pds_set (i := 6) sc_law_right.nd rfl (by first | exact Or.inl rfl | exact Or.inr rfl) (pd_repr ⟨hK⟩ hr gd rfl B.repr (pd_var 5))) (pdss_cons (pds_set (i := 7) sc_law_right.nd rfl (by first | exact Or.inl rfl | exact Or.inr rfl) (pd_fun h_law_crosses hr (Nat.le_refl _) rfl (fun _ => pa0) (pda_cons (pd_var 1) (pda_cons (pd_var 2) (pda_cons (pd_var 5) (pda_nil)))))) (pdss_one (pds_if (PDW.pdt (pdw_or (pdt_not (pdt_val (pd_fun h_law_same hr (Nat.le_refl _) rfl (fun _ => pa0) (pda_cons (pd_fun h_is_crossing_by hr (Nat.le_refl _) rfl (paF) (pda_cons (pd_var 3) (pda_cons (pd_var 2) (pda_cons (pd_var 5) (pda_nil))))) (pda_cons (pd_var 7) (pda_nil)))))) (pdw_or1 (pdt_cmp od_neSt ⟨hK⟩ (pd_repr ⟨hK⟩ hr gd rfl B.repr (pd_var 5)) (pd_var 6) (by first | exact nomark _ | rfl))))) (pdss_one (pds_ret (pd_bl))) (pdss_nil)))))) (pdss_one (pds_ret (pd_cmp (od_eq (hu64 hr)) ⟨hK⟩ (pd_var 3) (pd_fun h_law_lists hr (Nat.le_refl _) rfl (fun _ => pa0) (pda_cons (pd_var 1) (pda_nil))) (by first | exact nomark _ | rfl))))))))) (fun ds n k ke h => himp_right68 ds n k ke h rfl)
theorem se_NoSize : FnScope ["self", "number"] ["self", "number"] (defScope (mem 1 0)) := ⟨rfl, rfl, rfl, by decide +kernel, rfl, by decide +kernel, by decide +kernel⟩
theorem oe_NoSize {f C fI : Addr} {fd : FuncData} {k : Nat} (F : Fun K "__init__" "NoSize.__init__" (mem 1 0) f fd) : FnOk P w K mg base CX0 (k + 1) f fd ["self", "number"] (spErr K C fI ["number"]) :=
  err1 F se_NoSize fun cdv A outer s H E => pss_one (ps_ox (pv 0) (pv 1))
end
end K68
namespace K68
open PySem PySem.Spec PyProof.Rows L2 CS RM
theorem all_mk {l : PySem.W.OpenLaw} {w : World} {K : PySem.W.Frag} {h : Heap} {mg : Str → Option Value} {fa f1 f2 f3 f4 f5 f6 f7 f8 f9 f10 f11 f12 f13 f14 f15 f16 f17 f18 f19 : Addr} (X : K.In h) (G : h.Ns mainGlobals mg) (hfa : mg "law" = some (.ref fa))
    {od1 an1 od2 an2 od3 an3 od4 an4 od5 an5 od6 an6 od7 an7 od8 an8 od9 an9 od10 an10 od11 an11 od12 an12 od13 an13 od14 an14 od15 an15 od16 an16 od17 an17 od18 an18 od19 an19 : Option Addr} {sl1 sl2 sl3 sl4 sl5 sl6 sl7 sl8 sl9 sl10 sl11 sl12 sl13 sl14 sl15 sl16 sl17 sl18 sl19 : Array (Option Value)} {oc1 kV1 dc1 pm1 cd1 ct1 oc2 kV2 dc2 pm2 cd2 ct2 oc3 kV3 dc3 pm3 cd3 ct3 oc4 kV4 dc4 pm4 cd4 ct4 oc5 kV5 dc5 pm5 cd5 ct5 oc6 kV6 dc6 pm6 cd6 ct6 oc7 kV7 dc7 pm7 cd7 ct7 oc8 kV8 dc8 pm8 cd8 ct8 oc9 kV9 dc9 pm9 cd9 ct9 oc10 kV10 dc10 pm10 cd10 ct10 oc11 kV11 dc11 pm11 cd11 ct11 oc12 kV12 dc12 pm12 cd12 ct12 oc13 kV13 dc13 pm13 cd13 ct13 oc14 kV14 dc14 pm14 cd14 ct14 oc15 kV15 dc15 pm15 cd15 ct15 oc16 kV16 dc16 pm16 cd16 ct16 oc17 kV17 dc17 pm17 cd17 ct17 oc18 kV18 dc18 pm18 cd18 ct18 oc19 kV19 dc19 pm19 cd19 ct19 : Value}
    (a1 : PySem.W.nsIn K mainGlobals "is_number" = some (some (.ref f1))) (l1 : K.lookup f1 = some ⟨oc1, od1, .func (PySem.W.fnOf "is_number" "is_number" (defArgs (top 3)) (defBody (top 3)) (defScope (top 3)) .none kV1 dc1 pm1 an1 cd1 ct1), sl1⟩) (c1 : PySem.W.codeIn K cd1 "is_number" = true) (k1 : PySem.W.keepIn K (.ref f1) = true)
    (a2 : PySem.W.nsIn K mainGlobals "check_size" = some (some (.ref f2))) (l2 : K.lookup f2 = some ⟨oc2, od2, .func (PySem.W.fnOf "check_size" "check_size" (defArgs (top 5)) (defBody (top 5)) (defScope (top 5)) .none kV2 dc2 pm2 an2 cd2 ct2), sl2⟩) (c2 : PySem.W.codeIn K cd2 "check_size" = true) (k2 : PySem.W.keepIn K (.ref f2) = true)
    (a3 : PySem.W.nsIn K mainGlobals "cut" = some (some (.ref f3))) (l3 : K.lookup f3 = some ⟨oc3, od3, .func (PySem.W.fnOf "cut" "cut" (defArgs (top 6)) (defBody (top 6)) (defScope (top 6)) .none kV3 dc3 pm3 an3 cd3 ct3), sl3⟩) (c3 : PySem.W.codeIn K cd3 "cut" = true) (k3 : PySem.W.keepIn K (.ref f3) = true)
    (a4 : PySem.W.nsIn K mainGlobals "is_crossing_by" = some (some (.ref f4))) (l4 : K.lookup f4 = some ⟨oc4, od4, .func (PySem.W.fnOf "is_crossing_by" "is_crossing_by" (defArgs (top 7)) (defBody (top 7)) (defScope (top 7)) .none kV4 dc4 pm4 an4 cd4 ct4), sl4⟩) (c4 : PySem.W.codeIn K cd4 "is_crossing_by" = true) (k4 : PySem.W.keepIn K (.ref f4) = true)
    (a5 : PySem.W.nsIn K mainGlobals "_law_box" = some (some (.ref f5))) (l5 : K.lookup f5 = some ⟨oc5, od5, .func (PySem.W.fnOf "_law_box" "_law_box" (defArgs sBox) (defBody sBox) (defScope sBox) .none kV5 dc5 pm5 an5 cd5 ct5), sl5⟩) (c5 : PySem.W.codeIn K cd5 "_law_box" = true) (k5 : PySem.W.keepIn K (.ref f5) = true)
    (a6 : PySem.W.nsIn K mainGlobals "_law_take" = some (some (.ref f6))) (l6 : K.lookup f6 = some ⟨oc6, od6, .func (PySem.W.fnOf "_law_take" "_law_take" (defArgs sTake) (defBody sTake) (defScope sTake) .none kV6 dc6 pm6 an6 cd6 ct6), sl6⟩) (c6 : PySem.W.codeIn K cd6 "_law_take" = true) (k6 : PySem.W.keepIn K (.ref f6) = true)
    (a7 : PySem.W.nsIn K mainGlobals "_law_cells" = some (some (.ref f7))) (l7 : K.lookup f7 = some ⟨oc7, od7, .func (PySem.W.fnOf "_law_cells" "_law_cells" (defArgs sCells) (defBody sCells) (defScope sCells) .none kV7 dc7 pm7 an7 cd7 ct7), sl7⟩) (c7 : PySem.W.codeIn K cd7 "_law_cells" = true) (k7 : PySem.W.keepIn K (.ref f7) = true)
    (a8 : PySem.W.nsIn K mainGlobals "_law_of" = some (some (.ref f8))) (l8 : K.lookup f8 = some ⟨oc8, od8, .func (PySem.W.fnOf "_law_of" "_law_of" (defArgs (top 12)) (defBody (top 12)) (defScope (top 12)) .none kV8 dc8 pm8 an8 cd8 ct8), sl8⟩) (c8 : PySem.W.codeIn K cd8 "_law_of" = true) (k8 : PySem.W.keepIn K (.ref f8) = true)
    (a9 : PySem.W.nsIn K mainGlobals "_law_pick" = some (some (.ref f9))) (l9 : K.lookup f9 = some ⟨oc9, od9, .func (PySem.W.fnOf "_law_pick" "_law_pick" (defArgs (top 13)) (defBody (top 13)) (defScope (top 13)) .none kV9 dc9 pm9 an9 cd9 ct9), sl9⟩) (c9 : PySem.W.codeIn K cd9 "_law_pick" = true) (k9 : PySem.W.keepIn K (.ref f9) = true)
    (a10 : PySem.W.nsIn K mainGlobals "_law_lists" = some (some (.ref f10))) (l10 : K.lookup f10 = some ⟨oc10, od10, .func (PySem.W.fnOf "_law_lists" "_law_lists" (defArgs (top 14)) (defBody (top 14)) (defScope (top 14)) .none kV10 dc10 pm10 an10 cd10 ct10), sl10⟩) (c10 : PySem.W.codeIn K cd10 "_law_lists" = true) (k10 : PySem.W.keepIn K (.ref f10) = true)
    (a11 : PySem.W.nsIn K mainGlobals "_law_same" = some (some (.ref f11))) (l11 : K.lookup f11 = some ⟨oc11, od11, .func (PySem.W.fnOf "_law_same" "_law_same" (defArgs sSame) (defBody sSame) (defScope sSame) .none kV11 dc11 pm11 an11 cd11 ct11), sl11⟩) (c11 : PySem.W.codeIn K cd11 "_law_same" = true) (k11 : PySem.W.keepIn K (.ref f11) = true)
    (a12 : PySem.W.nsIn K mainGlobals "_law_tags" = some (some (.ref f12))) (l12 : K.lookup f12 = some ⟨oc12, od12, .func (PySem.W.fnOf "_law_tags" "_law_tags" (defArgs (top 16)) (defBody (top 16)) (defScope (top 16)) .none kV12 dc12 pm12 an12 cd12 ct12), sl12⟩) (c12 : PySem.W.codeIn K cd12 "_law_tags" = true) (k12 : PySem.W.keepIn K (.ref f12) = true)
    (a13 : PySem.W.nsIn K mainGlobals "_law_walk" = some (some (.ref f13))) (l13 : K.lookup f13 = some ⟨oc13, od13, .func (PySem.W.fnOf "_law_walk" "_law_walk" (defArgs (top 17)) (defBody (top 17)) (defScope (top 17)) .none kV13 dc13 pm13 an13 cd13 ct13), sl13⟩) (c13 : PySem.W.codeIn K cd13 "_law_walk" = true) (k13 : PySem.W.keepIn K (.ref f13) = true)
    (a14 : PySem.W.nsIn K mainGlobals "_law_crosses" = some (some (.ref f14))) (l14 : K.lookup f14 = some ⟨oc14, od14, .func (PySem.W.fnOf "_law_crosses" "_law_crosses" (defArgs (top 18)) (defBody (top 18)) (defScope (top 18)) .none kV14 dc14 pm14 an14 cd14 ct14), sl14⟩) (c14 : PySem.W.codeIn K cd14 "_law_crosses" = true) (k14 : PySem.W.keepIn K (.ref f14) = true)
    (a15 : PySem.W.nsIn K mainGlobals "_law_fours" = some (some (.ref f15))) (l15 : K.lookup f15 = some ⟨oc15, od15, .func (PySem.W.fnOf "_law_fours" "_law_fours" (defArgs (top 19)) (defBody (top 19)) (defScope (top 19)) .none kV15 dc15 pm15 an15 cd15 ct15), sl15⟩) (c15 : PySem.W.codeIn K cd15 "_law_fours" = true) (k15 : PySem.W.keepIn K (.ref f15) = true)
    (a16 : PySem.W.nsIn K mainGlobals "_law_bent" = some (some (.ref f16))) (l16 : K.lookup f16 = some ⟨oc16, od16, .func (PySem.W.fnOf "_law_bent" "_law_bent" (defArgs (top 20)) (defBody (top 20)) (defScope (top 20)) .none kV16 dc16 pm16 an16 cd16 ct16), sl16⟩) (c16 : PySem.W.codeIn K cd16 "_law_bent" = true) (k16 : PySem.W.keepIn K (.ref f16) = true)
    (a17 : PySem.W.nsIn K mainGlobals "_law_by_hand_right" = some (some (.ref f17))) (l17 : K.lookup f17 = some ⟨oc17, od17, .func (PySem.W.fnOf "_law_by_hand_right" "_law_by_hand_right" (defArgs (top 21)) (defBody (top 21)) (defScope (top 21)) .none kV17 dc17 pm17 an17 cd17 ct17), sl17⟩) (c17 : PySem.W.codeIn K cd17 "_law_by_hand_right" = true) (k17 : PySem.W.keepIn K (.ref f17) = true)
    (a18 : PySem.W.nsIn K mainGlobals "_law_right" = some (some (.ref f18))) (l18 : K.lookup f18 = some ⟨oc18, od18, .func (PySem.W.fnOf "_law_right" "_law_right" (defArgs (top 22)) (defBody (top 22)) (defScope (top 22)) .none kV18 dc18 pm18 an18 cd18 ct18), sl18⟩) (c18 : PySem.W.codeIn K cd18 "_law_right" = true) (k18 : PySem.W.keepIn K (.ref f18) = true)
    (a19 : PySem.W.nsIn K mainGlobals "law" = some (some (.ref f19))) (l19 : K.lookup f19 = some ⟨oc19, od19, .func (PySem.W.fnOf "law" "law" (defArgs sLaw) (defBody sLaw) (defScope sLaw) .none kV19 dc19 pm19 an19 cd19 ct19), sl19⟩) (c19 : PySem.W.codeIn K cd19 "law" = true) (k19 : PySem.W.keepIn K (.ref f19) = true)
    (z1 : PySem.W.nsIn K mainGlobals "len" = some none)
    (z2 : PySem.W.nsIn K mainGlobals "sum" = some none)
    (z3 : PySem.W.nsIn K mainGlobals "all" = some none)
    (z4 : PySem.W.nsIn K mainGlobals "any" = some none)
    (z5 : PySem.W.nsIn K mainGlobals "min" = some none)
    (z6 : PySem.W.nsIn K mainGlobals "max" = some none)
    (z7 : PySem.W.nsIn K mainGlobals "sorted" = some none)
    (z8 : PySem.W.nsIn K mainGlobals "tuple" = some none)
    (z9 : PySem.W.nsIn K mainGlobals "list" = some none)
    (z10 : PySem.W.nsIn K mainGlobals "set" = some none)
    (z11 : PySem.W.nsIn K mainGlobals "dict" = some none)
    (z12 : PySem.W.nsIn K mainGlobals "range" = some none)
    (z13 : PySem.W.nsIn K mainGlobals "zip" = some none)
    (z14 : PySem.W.nsIn K mainGlobals "enumerate" = some none)
    (z15 : PySem.W.nsIn K mainGlobals "isinstance" = some none)
    (z16 : PySem.W.nsIn K mainGlobals "abs" = some none)
    (z17 : PySem.W.nsIn K mainGlobals "int" = some none)
    (z18 : PySem.W.nsIn K mainGlobals "str" = some none)
    (z19 : PySem.W.nsIn K mainGlobals "repr" = some none)
    (z20 : PySem.W.nsIn K mainGlobals "bool" = some none)
    (z21 : PySem.W.nsIn K mainGlobals "ValueError" = some none)
    (z22 : PySem.W.nsIn K mainGlobals "LookupError" = some none)
    {x_NoSize : Addr} (a_NoSize : PySem.W.nsIn K mainGlobals "NoSize" = some (some (.ref x_NoSize)))
    {f_ENoSize : Addr} (i_ENoSize : PySem.W.findIn K (.ref x_NoSize) "__init__" = some (some (.ref f_ENoSize)))
    {oc_ENoSize : Value} {od_ENoSize : Option Addr} {kV_ENoSize dc_ENoSize pm_ENoSize : Value} {an_ENoSize : Option Addr} {cd_ENoSize ct_ENoSize : Value} {sl_ENoSize : Array (Option Value)} (l_ENoSize : K.lookup f_ENoSize = some ⟨oc_ENoSize, od_ENoSize, .func (PySem.W.fnOf "__init__" "NoSize.__init__" (defArgs (mem 1 0)) (defBody (mem 1 0)) (defScope (mem 1 0)) .none kV_ENoSize dc_ENoSize pm_ENoSize an_ENoSize cd_ENoSize ct_ENoSize), sl_ENoSize⟩)
     (c_ENoSize : PySem.W.codeIn K cd_ENoSize "NoSize.__init__" = true)
     (k_ENoSize : PySem.W.keepIn K (.ref f_ENoSize) = true)
    {nm_NoSize q_NoSize : Str} {N_NoSize : Addr} {bs_NoSize : List Value} {sn_NoSize : List Str} {sub_NoSize : List Value} {ab_NoSize : Bool} {col_NoSize : Option Bool} {dd_NoSize : Option Addr} {u0_NoSize u1_NoSize u2_NoSize u3_NoSize u5_NoSize : Option Value} (xl_NoSize : K.lookup x_NoSize = some (excClassObj nm_NoSize q_NoSize x_NoSize N_NoSize bs_NoSize [.type "ValueError", .type "Exception", .type "BaseException", .type "object"] true sn_NoSize sub_NoSize ab_NoSize col_NoSize dd_NoSize u0_NoSize u1_NoSize u2_NoSize u3_NoSize u5_NoSize "ValueError.__new__"))
     (eb_NoSize : erB K x_NoSize f_ENoSize ["number"] [.type "ValueError", .type "Exception", .type "BaseException", .type "object"] = true)
     (erx : erxB K [(cNoSize, x_NoSize)] ["number"] (fun c => true) = true) :
    ∃ fd : FuncData, (∀ (s : Shared) (v : Value), BindsTo s fd ⟨[v], []⟩ [("_law_script", v)]) ∧ ∀ base : Heap, K.In base → base.Ns mainGlobals mg → FnG l.prog w K mg base 14 fa fd ["_law_script"] (spLaw K) := by
  have e := hfa.symm.trans (PySem.W.mg_of X G a19)
  cases e
  have F1 := fun_mk (st := (top 3)) l1 c1 k1
  have b1 := F1.binds (ps := ["thing"]) fun _ _ _ _ _ _ us hl => match us, hl with | [_], _ => rfl
  have m1 := PySem.W.mg_of X G a1
  have F2 := fun_mk (st := (top 5)) l2 c2 k2
  have b2 := F2.binds (ps := ["journey", "size"]) fun _ _ _ _ _ _ us hl => match us, hl with | [_, _], _ => rfl
  have m2 := PySem.W.mg_of X G a2
  have F3 := fun_mk (st := (top 6)) l3 c3 k3
  have b3 := F3.binds (ps := ["journey", "size"]) fun _ _ _ _ _ _ us hl => match us, hl with | [_, _], _ => rfl
  have m3 := PySem.W.mg_of X G a3
  have F4 := fun_mk (st := (top 7)) l4 c4 k4
  have b4 := F4.binds (ps := ["journey", "size", "thing"]) fun _ _ _ _ _ _ us hl => match us, hl with | [_, _, _], _ => rfl
  have m4 := PySem.W.mg_of X G a4
  have F5 := fun_mk (st := sBox) l5 c5 k5
  have b5 := F5.binds (ps := ["_law_script", "_law_k"]) fun _ _ _ _ _ _ us hl => match us, hl with | [_, _], _ => rfl
  have m5 := PySem.W.mg_of X G a5
  have F6 := fun_mk (st := sTake) l6 c6 k6
  have b6 := F6.binds (ps := ["_law_box_here", "_law_below"]) fun _ _ _ _ _ _ us hl => match us, hl with | [_, _], _ => rfl
  have m6 := PySem.W.mg_of X G a6
  have F7 := fun_mk (st := sCells) l7 c7 k7
  have b7 := F7.binds (ps := ["_law_script", "_law_most_so"]) fun _ _ _ _ _ _ us hl => match us, hl with | [_, _], _ => rfl
  have m7 := PySem.W.mg_of X G a7
  have F8 := fun_mk (st := (top 12)) l8 c8 k8
  have b8 := F8.binds (ps := ["_law_box_here", "_law_some"]) fun _ _ _ _ _ _ us hl => match us, hl with | [_, _], _ => rfl
  have m8 := PySem.W.mg_of X G a8
  have F9 := fun_mk (st := (top 13)) l9 c9 k9
  have b9 := F9.binds (ps := ["_law_box_here", "_law_pool_so", "_law_many_so"]) fun _ _ _ _ _ _ us hl => match us, hl with | [_, _, _], _ => rfl
  have m9 := PySem.W.mg_of X G a9
  have F10 := fun_mk (st := (top 14)) l10 c10 k10
  have b10 := F10.binds (ps := ["_law_matter"]) fun _ _ _ _ _ _ us hl => match us, hl with | [_], _ => rfl
  have m10 := PySem.W.mg_of X G a10
  have F11 := fun_mk (st := sSame) l11 c11 k11
  have b11 := F11.binds (ps := ["_law_got", "_law_due"]) fun _ _ _ _ _ _ us hl => match us, hl with | [_, _], _ => rfl
  have m11 := PySem.W.mg_of X G a11
  have F12 := fun_mk (st := (top 16)) l12 c12 k12
  have b12 := F12.binds (ps := ["_law_box_here", "_law_many_so"]) fun _ _ _ _ _ _ us hl => match us, hl with | [_, _], _ => rfl
  have m12 := PySem.W.mg_of X G a12
  have F13 := fun_mk (st := (top 17)) l13 c13 k13
  have b13 := F13.binds (ps := ["_law_box_here", "_law_tags_here", "_law_most_so"]) fun _ _ _ _ _ _ us hl => match us, hl with | [_, _, _], _ => rfl
  have m13 := PySem.W.mg_of X G a13
  have F14 := fun_mk (st := (top 18)) l14 c14 k14
  have b14 := F14.binds (ps := ["_law_row_so", "_law_far", "_law_mat"]) fun _ _ _ _ _ _ us hl => match us, hl with | [_, _, _], _ => rfl
  have m14 := PySem.W.mg_of X G a14
  have F15 := fun_mk (st := (top 19)) l15 c15 k15
  have b15 := F15.binds (ps := ["_law_many_so"]) fun _ _ _ _ _ _ us hl => match us, hl with | [_], _ => rfl
  have m15 := PySem.W.mg_of X G a15
  have F16 := fun_mk (st := (top 20)) l16 c16 k16
  have b16 := F16.binds (ps := ["_law_box_here", "_law_mat"]) fun _ _ _ _ _ _ us hl => match us, hl with | [_, _], _ => rfl
  have m16 := PySem.W.mg_of X G a16
  have F17 := fun_mk (st := (top 21)) l17 c17 k17
  have b17 := F17.binds (ps := []) fun _ _ _ _ _ _ us hl => match us, hl with | [], _ => rfl
  have m17 := PySem.W.mg_of X G a17
  have F18 := fun_mk (st := (top 22)) l18 c18 k18
  have b18 := F18.binds (ps := ["_law_box_here"]) fun _ _ _ _ _ _ us hl => match us, hl with | [_], _ => rfl
  have m18 := PySem.W.mg_of X G a18
  have F19 := fun_mk (st := sLaw) l19 c19 k19
  have y1 := PySem.W.mg_none_of X G z1
  have y2 := PySem.W.mg_none_of X G z2
  have y3 := PySem.W.mg_none_of X G z3
  have y4 := PySem.W.mg_none_of X G z4
  have y5 := PySem.W.mg_none_of X G z5
  have y6 := PySem.W.mg_none_of X G z6
  have y7 := PySem.W.mg_none_of X G z7
  have y8 := PySem.W.mg_none_of X G z8
  have y9 := PySem.W.mg_none_of X G z9
  have y10 := PySem.W.mg_none_of X G z10
  have y11 := PySem.W.mg_none_of X G z11
  have y12 := PySem.W.mg_none_of X G z12
  have y13 := PySem.W.mg_none_of X G z13
  have y14 := PySem.W.mg_none_of X G z14
  have y15 := PySem.W.mg_none_of X G z15
  have y16 := PySem.W.mg_none_of X G z16
  have y17 := PySem.W.mg_none_of X G z17
  have y18 := PySem.W.mg_none_of X G z18
  have y19 := PySem.W.mg_none_of X G z19
  have y20 := PySem.W.mg_none_of X G z20
  have y21 := PySem.W.mg_none_of X G z21
  have y22 := PySem.W.mg_none_of X G z22
  have B : Bl mg := ⟨y1, y2, y3, y4, y5, y6, y7, y8, y9, y10, y11, y12, y13, y14, y15, y16, y17, y18, y19, y20, y21, y22⟩
  refine ⟨PySem.W.fnOf "law" "law" (defArgs sLaw) (defBody sLaw) (defScope sLaw) .none kV19 dc19 pm19 an19 cd19 ct19, fun s v => .of_eq rfl, fun base _ _ => ?_⟩
  let g : Glob := ⟨K, fun c => match c with  | 11 => x_NoSize  | _ => x_NoSize⟩
  have F_ENoSize := fun_mk (st := (mem 1 0)) l_ENoSize c_ENoSize k_ENoSize
  have b_ENoSize := F_ENoSize.binds (ps := ["self", "number"]) fun _ _ _ _ _ _ us hl => match us, hl with | [_, _], _ => rfl
  have e_NoSize : HasE l.prog w K mg base g 1 "NoSize" cNoSize ["self", "number"] ["number"] := ⟨f_ENoSize, _, erB_ok PySem.F.excBase_ValueError PySem.F.store_ValueError xl_NoSize eb_NoSize, oe_NoSize (k := 0) F_ENoSize, b_ENoSize, PySem.W.mg_of X G a_NoSize⟩
  have m_NoSize := PySem.W.mg_of X G a_NoSize
  have hX : ErX K g [cNoSize] ["number"] (fun c => true) := erx_ok (g := g) erx (fun p hp => by
    simp only [List.mem_cons, List.not_mem_nil, or_false] at hp
    rcases hp with rfl <;> rfl)
  have T : SmT mg := ⟨y15, y9, y8, y1, y3, y13, y20, y18, y17⟩
  have gM1 := ok_same (P := l.prog) (w := w) (base := base) F11 same_none b11 m11 T
  have gM2 := ok_same F11 gM1 b11 m11 T
  have gM3 := ok_same F11 gM2 b11 m11 T
  have gM4 := ok_same F11 gM3 b11 m11 T
  have gK := ok_take (P := l.prog) (w := w) (base := base) (k := 0) F6 y17
  have v__law_same : FnOk l.prog w K mg base CX0 4 f11 _ ["_law_got", "_law_due"] (spD g sdSame) := FnOk.imp gM4 (fun vs H Q E h => (let ⟨x, y, d, e1, e2, e3, e4, e5⟩ := same_imp (fun d => okS_plain 4 d) h; ⟨x, y, d, e1, e2, e3, okS_okD 4 d e4, e5⟩))
  have v__law_take : FnOk l.prog w K mg base CX0 1 f6 _ ["_law_box_here", "_law_below"] (spD g sdTake) := FnOk.imp gK (fun vs H Q E h => take_imp h)
  have gL1 : FnOk l.prog w K mg base CX0 1 f10 _ ["_law_matter"] (spD g (sdLists 1)) := ok_law_lists (m := 0) (k := 0) F10 B rfl ⟨⟨f10, _, lists_none, b10, k10, m10⟩⟩
  have gL2 : FnOk l.prog w K mg base CX0 2 f10 _ ["_law_matter"] (spD g (sdLists 2)) := ok_law_lists (m := 1) (k := 1) F10 B rfl ⟨⟨f10, _, gL1, b10, k10, m10⟩⟩
  have v__law_lists : FnOk l.prog w K mg base CX0 3 f10 _ ["_law_matter"] (spD g (sdLists 3)) := ok_law_lists (m := 2) (k := 2) F10 B rfl ⟨⟨f10, _, gL2, b10, k10, m10⟩⟩
  have v__law_of : FnOk l.prog w K mg base CX0 2 f8 _ ["_law_box_here", "_law_some"] (spD g sdOf) := ok_law_of (k := 1) F8 B rfl ⟨⟨f6, _, v__law_take, b6, k6, m6⟩⟩
  have v__law_pick : FnOk l.prog w K mg base CX0 2 f9 _ ["_law_box_here", "_law_pool_so", "_law_many_so"] (spD g sdPick) := ok_law_pick (k := 1) F9 B rfl ⟨⟨f6, _, v__law_take, b6, k6, m6⟩⟩
  have v__law_tags : FnOk l.prog w K mg base CX0 3 f12 _ ["_law_box_here", "_law_many_so"] (spD g sdTags) := ok_law_tags (k := 2) F12 B rfl ⟨⟨f6, _, (v__law_take.mono (by decide : 1 ≤ 2)), b6, k6, m6⟩⟩ ⟨⟨f9, _, v__law_pick, b9, k9, m9⟩⟩
  have v__law_walk : FnOk l.prog w K mg base CX0 3 f13 _ ["_law_box_here", "_law_tags_here", "_law_most_so"] (spD g sdWalkB) := ok_law_walk (k := 2) F13 B rfl ⟨⟨f8, _, v__law_of, b8, k8, m8⟩⟩ ⟨⟨f6, _, (v__law_take.mono (by decide : 1 ≤ 2)), b6, k6, m6⟩⟩
  have v_is_number : FnOk l.prog w K mg base CX0 1 f1 _ ["thing"] (spD g sdIsNum) := ok_is_number (k := 0) F1 B rfl 
  have v_check_size : FnOk l.prog w K mg base (L2.CX l.prog w) 3 f2 _ ["journey", "size"] (spD g sdCheckSize) := ok_check_size (k := 2) F2 B rfl (j := 1) (by decide) ⟨let ⟨a, b, c, d⟩ := e_NoSize.ex; ⟨a, b, c, d.1.mono (by decide : 1 ≤ 1), d.2⟩⟩
  have v_cut : FnOk l.prog w K mg base CX0 1 f3 _ ["journey", "size"] (spD g sdCut) := ok_cut (k := 0) F3 B rfl 
  have v_is_crossing_by : FnOk l.prog w K mg base (L2.CX l.prog w) 5 f4 _ ["journey", "size", "thing"] (spD g sdIsCross) := ok_is_crossing_by (k := 4) F4 B rfl ⟨⟨f2, _, (v_check_size.mono (by decide : 3 ≤ 4)), b2, k2, m2⟩⟩ ⟨⟨f1, _, (v_is_number.mono (by decide : 1 ≤ 4)), b1, k1, m1⟩⟩ ⟨⟨f3, _, (v_cut.mono (by decide : 1 ≤ 4)), b3, k3, m3⟩⟩
  have v__law_crosses : FnOk l.prog w K mg base CX0 2 f14 _ ["_law_row_so", "_law_far", "_law_mat"] (spD g sdCrosses) := ok_law_crosses (k := 1) F14 B rfl 
  have v__law_fours : FnOk l.prog w K mg base CX0 1 f15 _ ["_law_many_so"] (spD g sdFours) := ok_law_fours (k := 0) F15 B rfl 
  have v__law_bent : FnOk l.prog w K mg base CX0 3 f16 _ ["_law_box_here", "_law_mat"] (spD g sdBent68) := ok_law_bent (k := 2) F16 B rfl ⟨⟨f6, _, (v__law_take.mono (by decide : 1 ≤ 2)), b6, k6, m6⟩⟩ ⟨⟨f8, _, v__law_of, b8, k8, m8⟩⟩
  have v__law_by_hand_right : FnOk l.prog w K mg base CX0 13 f17 _ [] (spD g sdByHand39) := ok_law_by_hand_right (k := 12) F17 B rfl ⟨⟨f4, _, (v_is_crossing_by.mono (by decide : 5 ≤ 12)), b4, k4, m4⟩⟩ ⟨⟨f4, _, (v_is_crossing_by.mono (by decide : 5 ≤ 12)), kb_names F4 (fun _ _ _ _ _ _ ws hl => match ws, hl with | [_, _, _], _ => rfl), k4, m4⟩⟩ ⟨⟨f11, _, (v__law_same.mono (by decide : 4 ≤ 12)), b11, k11, m11⟩⟩
  have v__law_right : FnG l.prog w K mg base 13 f18 _ ["_law_box_here"] (spD g (sdRightN 500000 3000)) := ok_law_right (k := 12) F18 B rfl ⟨⟨f13, _, (v__law_walk.mono (by decide : 3 ≤ 12)), b13, k13, m13⟩⟩ ⟨⟨f12, _, (v__law_tags.mono (by decide : 3 ≤ 12)), b12, k12, m12⟩⟩ ⟨⟨f6, _, (v__law_take.mono (by decide : 1 ≤ 12)), b6, k6, m6⟩⟩ ⟨⟨f10, _, (v__law_lists.mono (by decide : 3 ≤ 12)), b10, k10, m10⟩⟩ ⟨⟨f15, _, (v__law_fours.mono (by decide : 1 ≤ 12)), b15, k15, m15⟩⟩ ⟨⟨f16, _, (v__law_bent.mono (by decide : 3 ≤ 12)), b16, k16, m16⟩⟩ ⟨⟨f8, _, (v__law_of.mono (by decide : 2 ≤ 12)), b8, k8, m8⟩⟩ ⟨⟨f14, _, (v__law_crosses.mono (by decide : 2 ≤ 12)), b14, k14, m14⟩⟩ ⟨⟨f11, _, (v__law_same.mono (by decide : 4 ≤ 12)), b11, k11, m11⟩⟩ ⟨⟨f4, _, (v_is_crossing_by.mono (by decide : 5 ≤ 12)), b4, k4, m4⟩⟩
  have gR : FnG l.prog w K mg base 13 f18 _ ["_law_box_here"] spRight := RM.FnG.imp v__law_right (fun vs H Q E h => right_impN h)
  have gH : FnOk l.prog w K mg base CX0 13 f17 _ [] spHand := FnOk.imp v__law_by_hand_right (fun vs H Q E h => hand_imp h)
  have gE : FnOk l.prog w K mg base CX0 13 f7 _ ["_law_script", "_law_most_so"] (spCells K) := ok_cells F7 y9 y14 y17
  have gB : FnOk l.prog w K mg base CX0 13 f5 _ ["_law_script", "_law_k"] (spBox K) := ok_box F5 y1 y16 y17
  exact ok_law F19 gH b17 k17 m17 gE b7 k7 m7 gR b18 k18 m18 gB b5 k5 m5 y12 y3 y1
theorem walk {l : PySem.W.OpenLaw} {q : Program} {loose : List Str} {XP : (Str → Option Value) → Heap → Prop} {YP : World → Heap → Prop} {d : DefRec} {K : Params → PySem.W.Frag} (hn : l.most = some 63) (hdf : d.params.defaults = [])
    (hY : ∀ (w : World) (h : Heap), YP w h → (K w.params).In h)
    (F : ∀ (w : World) (mg : Str → Option Value) (fa : Addr) (h : Heap), (K w.params).In h → h.Ns mainGlobals mg → mg d.name = some (.ref fa) →
      ∃ fd : FuncData, (∀ (s : Shared) (u : Value), BindsTo s fd ⟨[u], []⟩ [("_law_script", u)]) ∧ ∀ base : Heap, (K w.params).In base → base.Ns mainGlobals mg → FnG l.prog w (K w.params) mg base 14 fa fd ["_law_script"] (spLaw (K w.params))) :
    PySem.W.WalkO q loose XP YP l.row.toRowW d [] (fun f vs => PySem.call f vs) :=
  CS.walk_ofG (n := 63) (k := 14) (x := "_law_script") (sp := fun w => spLaw (K w.params)) hn (by decide) hdf ⟨rfl, by decide, by decide⟩ hY F fun _ _ a ns hl hS => ⟨a, ns, rfl, hS, hl, fun _ => rfl⟩
end K68
open PySem PySem.W PyProof.Rows in
set_option maxRecDepth 100000 in
set_option maxHeartbeats 0 in
theorem PySem.Challenge.cw_countedsteps_k68_what_crossings_are_holds : PySem.Challenge.rw_countedsteps_k68_what_crossings_are.Holds := by
  w_on; o_law; k_head; (case hw => w_witness2)
  k_fill
  refine K68.walk (l := PySem.Challenge.rw_countedsteps_k68_what_crossings_are) rfl rfl (fun w h Y => PySem.W.kIn_of Y) ?F
  case F =>
    intro w mg fa h KX G hmg
    refine' K68.all_mk KX G hmg ?a1 ?l1 ?c1 ?k1 ?a2 ?l2 ?c2 ?k2 ?a3 ?l3 ?c3 ?k3 ?a4 ?l4 ?c4 ?k4 ?a5 ?l5 ?c5 ?k5 ?a6 ?l6 ?c6 ?k6 ?a7 ?l7 ?c7 ?k7 ?a8 ?l8 ?c8 ?k8 ?a9 ?l9 ?c9 ?k9 ?a10 ?l10 ?c10 ?k10 ?a11 ?l11 ?c11 ?k11 ?a12 ?l12 ?c12 ?k12 ?a13 ?l13 ?c13 ?k13 ?a14 ?l14 ?c14 ?k14 ?a15 ?l15 ?c15 ?k15 ?a16 ?l16 ?c16 ?k16 ?a17 ?l17 ?c17 ?k17 ?a18 ?l18 ?c18 ?k18 ?a19 ?l19 ?c19 ?k19 ?z1 ?z2 ?z3 ?z4 ?z5 ?z6 ?z7 ?z8 ?z9 ?z10 ?z11 ?z12 ?z13 ?z14 ?z15 ?z16 ?z17 ?z18 ?z19 ?z20 ?z21 ?z22 ?a_NoSize ?i_ENoSize ?l_ENoSize ?c_ENoSize ?k_ENoSize ?xl_NoSize ?eb_NoSize ?erx
    (case a1 => k_is); (case l1 => k_is); (case c1 => k_is); (case k1 => k_is)
    (case a2 => k_is); (case l2 => k_is); (case c2 => k_is); (case k2 => k_is)
    (case a3 => k_is); (case l3 => k_is); (case c3 => k_is); (case k3 => k_is)
    (case a4 => k_is); (case l4 => k_is); (case c4 => k_is); (case k4 => k_is)
    (case a5 => k_is); (case l5 => k_is); (case c5 => k_is); (case k5 => k_is)
    (case a6 => k_is); (case l6 => k_is); (case c6 => k_is); (case k6 => k_is)
    (case a7 => k_is); (case l7 => k_is); (case c7 => k_is); (case k7 => k_is)
    (case a8 => k_is); (case l8 => k_is); (case c8 => k_is); (case k8 => k_is)
    (case a9 => k_is); (case l9 => k_is); (case c9 => k_is); (case k9 => k_is)
    (case a10 => k_is); (case l10 => k_is); (case c10 => k_is); (case k10 => k_is)
    (case a11 => k_is); (case l11 => k_is); (case c11 => k_is); (case k11 => k_is)
    (case a12 => k_is); (case l12 => k_is); (case c12 => k_is); (case k12 => k_is)
    (case a13 => k_is); (case l13 => k_is); (case c13 => k_is); (case k13 => k_is)
    (case a14 => k_is); (case l14 => k_is); (case c14 => k_is); (case k14 => k_is)
    (case a15 => k_is); (case l15 => k_is); (case c15 => k_is); (case k15 => k_is)
    (case a16 => k_is); (case l16 => k_is); (case c16 => k_is); (case k16 => k_is)
    (case a17 => k_is); (case l17 => k_is); (case c17 => k_is); (case k17 => k_is)
    (case a18 => k_is); (case l18 => k_is); (case c18 => k_is); (case k18 => k_is)
    (case a19 => k_is); (case l19 => k_is); (case c19 => k_is); (case k19 => k_is)
    (case z1 => k_is)
    (case z2 => k_is)
    (case z3 => k_is)
    (case z4 => k_is)
    (case z5 => k_is)
    (case z6 => k_is)
    (case z7 => k_is)
    (case z8 => k_is)
    (case z9 => k_is)
    (case z10 => k_is)
    (case z11 => k_is)
    (case z12 => k_is)
    (case z13 => k_is)
    (case z14 => k_is)
    (case z15 => k_is)
    (case z16 => k_is)
    (case z17 => k_is)
    (case z18 => k_is)
    (case z19 => k_is)
    (case z20 => k_is)
    (case z21 => k_is)
    (case z22 => k_is)
    (case a_NoSize => k_is)
    (case i_ENoSize => k_is)
    (case l_ENoSize => k_is)
    (case c_ENoSize => k_is)
    (case k_ENoSize => k_is)
    (case xl_NoSize => k_is)
    (case eb_NoSize => kernel_rfl)
    (case erx => kernel_rfl)
#print axioms PySem.Challenge.cw_countedsteps_k68_what_crossings_are_holds
